import PyProof.Rows.All
import Wide.All
import OpenK.AllK
import Wide.FinOn
import PyProof.EqAt
import PyProof.EqKinds
import PyProof.TupleCall
import KE.BitLaws
import Open.SpecLaws
import KE.OsHead
import KE.OsGo
import KE.KMinKey
import PySem.Challenge.RW_boatstoshore_s01_answers
section
set_option Elab.async false
set_option linter.all false
set_option maxRecDepth 100000
namespace L2
open PySem PySem.Spec PyProof.Rows

/-- a key: an int or a str -/
abbrev Key := Sum Int Str
def keyIs : Key → Value → Bool
  | .inl k, v => Value.isInt k v
  | .inr x, v => Value.isStrOf x v
def keyH (w : World) : Key → Int
  | .inl k => hashInt k
  | .inr x => hashStr w x
theorem keyIs_shape : ∀ {k : Key} {v : Value}, keyIs k v = true → (∃ i t, k = Sum.inl i ∧ v = Value.int i t) ∨ (∃ x t, k = Sum.inr x ∧ v = Value.str x t)
  | .inl i, v, h => by
    obtain ⟨t, e⟩ := Value.isInt_shape (k := i) (v := v) h
    exact .inl ⟨i, t, rfl, e⟩
  | .inr x, v, h => by
    obtain ⟨t, e⟩ := Value.isStrOf_shape (x := x) (v := v) h
    exact .inr ⟨x, t, rfl, e⟩
theorem key_ll (a b : Int) : decide ((Sum.inl a : Key) = Sum.inl b) = (a == b) := by
  by_cases e : a = b
  · subst e; simp
  · have h : ¬ (Sum.inl a : Key) = Sum.inl b := fun q => e (Sum.inl.inj q)
    rw [decide_eq_false h]
    exact (beq_eq_false_iff_ne.mpr e).symm
theorem key_rr (a b : Str) : decide ((Sum.inr a : Key) = Sum.inr b) = decide (a = b) := by
  by_cases e : a = b
  · subst e; simp
  · have h : ¬ (Sum.inr a : Key) = Sum.inr b := fun q => e (Sum.inr.inj q)
    rw [decide_eq_false h, decide_eq_false e]
theorem key_lr (a : Int) (b : Str) : decide ((Sum.inl a : Key) = Sum.inr b) = false := decide_eq_false (fun q => nomatch q)
theorem key_rl (a : Str) (b : Int) : decide ((Sum.inr a : Key) = Sum.inl b) = false := decide_eq_false (fun q => nomatch q)

def mixKind (prog : Program) (w : World) : PySem.KeyKind prog w Key where
  is := keyIs
  hash := keyH w
  inj := fun v a b ha hb => by
    rcases keyIs_shape ha with ⟨i, t, rfl, rfl⟩ | ⟨x, t, rfl, rfl⟩
    · rcases keyIs_shape hb with ⟨j, u, rfl, e⟩ | ⟨y, u, rfl, e⟩
      · injection e with e1 _; rw [e1]
      · exact nomatch e
    · rcases keyIs_shape hb with ⟨j, u, rfl, e⟩ | ⟨y, u, rfl, e⟩
      · exact nomatch e
      · injection e with e1 _; rw [e1]
  byValue := fun k v h => by
    rcases keyIs_shape h with ⟨i, t, rfl, rfl⟩ | ⟨x, t, rfl, rfl⟩ <;> rfl
  pyHash := fun hv h => by
    rcases keyIs_shape hv with ⟨i, t, rfl, rfl⟩ | ⟨x, t, rfl, rfl⟩
    · exact wpAny_pyHash_int h
    · exact wpAny_pyHash_str h
  eqBool := fun hu hv h => by
    rcases keyIs_shape hu with ⟨i, t, rfl, rfl⟩ | ⟨x, t, rfl, rfl⟩
    · rcases keyIs_shape hv with ⟨j, u, rfl, rfl⟩ | ⟨y, u, rfl, rfl⟩
      · rw [key_ll] at h; exact wpAny_eqBool_int h
      · rw [key_lr] at h; exact SeqAt.EqAt.int_str i t y u _ _ _ _ h
    · rcases keyIs_shape hv with ⟨j, u, rfl, rfl⟩ | ⟨y, u, rfl, rfl⟩
      · rw [key_rl] at h; exact SeqAt.EqAt.str_int x t j u _ _ _ _ h
      · rw [key_rr] at h; exact wpAny_eqBool_str h
  «strs» := fun k x t v h => by
    rcases keyIs_shape h with ⟨i, u, rfl, e⟩ | ⟨y, u, rfl, e⟩
    · exact nomatch e
    · injection e with e1 _
      subst e1
      cases v <;> rfl

end L2

namespace L2
open PySem PySem.Spec PyProof.Rows

/-- a value, without the heap -/
inductive V where
  | non | bl (b : Bool) | int (i : Int) | str (x : Str) | byt (b : Array UInt8) | flt (b : UInt64) | ref (a : Addr) | ty (n : String)
  deriving DecidableEq

def RelV : V → Value → Prop
  | .non, u => u = Value.none
  | .bl b, u => u = Value.bool b
  | .int i, u => ∃ t, u = Value.int i t
  | .str x, u => ∃ t, u = Value.str x t
  | .byt b, u => ∃ t, u = Value.bytes b t
  | .flt b, u => ∃ t, u = Value.float b t
  | .ref a, u => u = Value.ref a
  | .ty n, u => u = Value.type n

abbrev Vals : List V → List Value → Prop := Paired RelV
theorem Vals.length {xs : List V} {us : List Value} (r : Vals xs us) : xs.length = us.length := Paired.length r
theorem Vals.get : ∀ {xs : List V} {us : List Value} {i : Nat} {x : V}, Vals xs us → xs[i]? = some x → ∃ u, us[i]? = some u ∧ RelV x u
  | _, _, _, _, .nil, e => by simp at e
  | _, _, 0, _, .cons r _, e => by simp at e; subst e; exact ⟨_, rfl, r⟩
  | _, _, i + 1, x, .cons _ t, e => by
    obtain ⟨u, h1, h2⟩ := Vals.get (i := i) (x := x) t (by simpa using e)
    exact ⟨u, by simpa using h1, h2⟩
theorem Vals.set {x : V} {u : Value} (r : RelV x u) : ∀ {xs : List V} {us : List Value} (i : Nat), Vals xs us → Vals (xs.set i x) (us.set i u)
  | _, _, _, .nil => .nil
  | _, _, 0, .cons _ t => .cons r t
  | _, _, i + 1, .cons q t => .cons q (Vals.set r i t)
theorem Vals.append : ∀ {xs ys : List V} {us ws : List Value}, Vals xs us → Vals ys ws → Vals (xs ++ ys) (us ++ ws)
  | _, _, _, _, .nil, s => s
  | _, _, _, _, .cons r t, s => .cons r (Vals.append t s)
theorem Vals.take : ∀ {xs : List V} {us : List Value} (n : Nat), Vals xs us → Vals (xs.take n) (us.take n)
  | _, _, 0, _ => .nil
  | _, _, _ + 1, .nil => .nil
  | _, _, n + 1, .cons r t => .cons r (Vals.take n t)
theorem Vals.drop : ∀ {xs : List V} {us : List Value} (n : Nat), Vals xs us → Vals (xs.drop n) (us.drop n)
  | _, _, 0, r => r
  | _, _, _ + 1, .nil => .nil
  | _, _, n + 1, .cons _ t => Vals.drop n t
def RelO : Option V → Option Value → Prop
  | some v, some u => RelV v u
  | none, none => True
  | _, _ => False
def KV {κ : Type} : List (κ × V) → List (κ × Value) → Prop := Paired fun (p : κ × V) (q : κ × Value) => p.1 = q.1 ∧ RelV p.2 q.2

/-- a key of a dict (00_mix): an int or a text -/
def kV : Key → V
  | .inl i => .int i
  | .inr x => .str x

/-- what stands at a tracked address -/
inductive HO where
  /-- a list -/
  | lst (xs : List V)
  /-- a tuple (never changes) -/
  | tup (xs : List V)
  /-- a dict whose keys are ints and texts; one whose keys are tuples of ints and texts (the empty one is both) -/
  | dK (kvs : List (Key × V)) | dT (kvs : List (List Key × V))
  /-- a set of ints: its members, its size -/
  | set (S : Int → Bool) (n : Nat)
  /-- an instance of the class at C, its dict at dx, its attributes -/
  | ins (C dx : Addr) (fs : List (Str × V))
  /-- the dict of the instance at x -/
  | own (x : Addr)
  /-- the dict of an exception -/
  | xd (fs : List (Str × V))
  /-- a bound method, f of x -/
  | met (f x : Addr)
  /-- a range object lo, lo + 1, .. below hi -/
  | rng (lo hi : Int)
  /-- a thing that is known to the object (the script; a dict while a loop walks it): read, never written while it is so -/
  | frz (o : Obj) (u : HO)
  /-- a code object's table -/
  | tbl (ps : Array Value)
  /-- any other thing, by what is true of its one object (a def of one's own: SetO a S n := HO.ext fun h => ..) -/
  | ext (φ : Heap → Prop)

abbrev Hp := Addr → Option HO
def upd (H : Hp) (a : Addr) (o : HO) : Hp := fun b => if b = a then some o else H b
theorem upd_same {H : Hp} {a : Addr} {o : HO} : upd H a o a = some o := by unfold upd; rw [if_pos rfl]
theorem upd_ne {H : Hp} {a b : Addr} {o : HO} (h : b ≠ a) : upd H a o b = H b := by unfold upd; rw [if_neg h]
/-- two objects of different content stand apart -/
theorem ne_of {H : Hp} {a b : Addr} {o u : HO} (h : H a = some o) (h' : H b = some u) (d : o ≠ u) : a ≠ b := by
  intro e; subst e; rw [h] at h'; exact d (Option.some.inj h')
theorem ne_of_none {H : Hp} {a b : Addr} {o : HO} (h : H a = some o) (h' : H b = none) : a ≠ b := by
  intro e; subst e; rw [h] at h'; cases h'

section
variable (P : Program) (w : World)
def ObjOk (H : Hp) (h : Heap) (a : Addr) : HO → Prop
  | .lst xs => xs.length ≤ sizeLine ∧ ∃ (its : List Value) (n : Nat), Vals xs its ∧ h.get? a = some { cls := .type "list", data := .seq its.toArray n }
  | .tup xs => xs.length ≤ sizeLine ∧ ∃ its : List Value, Vals xs its ∧ IsTup h a its.toArray
  | .dK kvs => kvs.length ≤ sizeLine ∧ (a == sysModules) = false ∧ ∃ vs, KV kvs vs ∧ h.DictOf (mixKind P w) a vs
  | .dT kvs => kvs.length ≤ sizeLine ∧ (a == sysModules) = false ∧ ∃ xs : List (List Key × Addr × Value),
      Paired (fun (p : List Key × V) (q : List Key × Addr × Value) => p.1 = q.1 ∧ H q.2.1 = some (.tup (p.1.map kV)) ∧ RelV p.2 q.2.2) kvs xs ∧
      ∃ o es ep, h.get? a = some o ∧ o.ExactDict ∧ o.data = .dict es ep ∧ es.toList = xs.map (entryOfKey (tupleKind (mixKind P w))) ∧ (xs.map (·.1)).Nodup
  | .set S n => h.SetOf (intKind P w) a S n
  | .ins C dx fs => H dx = some (.own a) ∧ fs.length ≤ 1000 ∧ dx ≠ a ∧ h.get? a = some (PySem.W.instObj C dx) ∧
      ∃ mA, h.Ns1 dx mA ∧ (∀ f, RelO (fs.lookup f) (mA f)) ∧ PySem.Within mA (fs.map (·.1))
  | .own _ => ∃ o, h.get? a = some o
  | .xd fs => ∃ mA, h.Ns1 a mA ∧ ∀ f, RelO (fs.lookup f) (mA f)
  | .rng lo hi => ∃ t u v, h.get? a = some { cls := .type "range", data := .fields #[.int lo t, .int hi u, .int 1 v] }
  | .frz o u => h.get? a = some o ∧ ObjOk H h a u
  | .tbl ps => h.get? a = some { cls := .none, data := .fields ps }
  | .met f x => h.get? a = some (PySem.W.methodObj (.ref f) (.ref x))
  | .ext φ => φ h ∧ (∃ o, h.get? a = some o) ∧ ∀ h1 h2 : Heap, φ h1 → (∀ o, h1.get? a = some o → h2.get? a = some o) → φ h2
/-- the abstract heap is held -/
def HOk (H : Hp) (h : Heap) : Prop := ∀ a o, H a = some o → ObjOk P w H h a o
end

section
variable {P : Program} {w : World} {H H' : Hp} {h h' : Heap} {a : Addr} {o : HO}
theorem ObjOk.lt (x : ObjOk P w H h a o) : a < h.objs.size := by
  cases o with
  | lst xs => obtain ⟨_, _, _, _, e⟩ := x; exact Heap.lt_size e
  | tup xs => obtain ⟨_, _, _, p⟩ := x; exact p.lt
  | dK kvs => obtain ⟨_, _, _, _, o, _, _, e, _⟩ := x; exact Heap.lt_size e
  | dT kvs => obtain ⟨_, _, _, _, o, _, _, e, _⟩ := x; exact Heap.lt_size e
  | set S n => obtain ⟨o, _, _, _, e, _⟩ := x; exact Heap.lt_size e
  | ins C dx fs => obtain ⟨_, _, _, e, _⟩ := x; exact Heap.lt_size e
  | own y => obtain ⟨_, e⟩ := x; exact Heap.lt_size e
  | xd fs => obtain ⟨_, ⟨_, _, _, e, _⟩, _⟩ := x; exact Heap.lt_size e
  | rng lo hi => obtain ⟨_, _, _, e⟩ := x; exact Heap.lt_size e
  | frz ob u => obtain ⟨e, _⟩ := x; exact Heap.lt_size e
  | tbl ps => exact Heap.lt_size (show h.get? a = some _ from x)
  | met f y => exact Heap.lt_size (show h.get? a = some _ from x)
  | ext φ => obtain ⟨_, ⟨_, e⟩, _⟩ := x; exact Heap.lt_size e
theorem Paired.mapP {α β : Type} {F G : α → β → Prop} : ∀ {l₁ : List α} {l₂ : List β}, Paired F l₁ l₂ → (∀ a b, F a b → G a b) → Paired G l₁ l₂
  | _, _, .nil, _ => .nil
  | _, _, .cons r t, f => .cons (f _ _ r) (Paired.mapP t f)
/-- what an object's description leans on: its own object, its own dict, the tuples -/
theorem ObjOk.stay (x : ObjOk P w H h a o) (k : ∀ b u, (b = a ∨ H b = some (.own a)) → h.get? b = some u → h'.get? b = some u)
    (ho : ∀ b, H b = some (.own a) → H' b = some (.own a)) (ht : ∀ b xs, H b = some (.tup xs) → H' b = some (.tup xs)) : ObjOk P w H' h' a o := by
  induction o with
  | lst xs => obtain ⟨z, its, n, r, e⟩ := x; exact ⟨z, its, n, r, k _ _ (.inl rfl) e⟩
  | tup xs => obtain ⟨z, its, r, ob, e, c⟩ := x; exact ⟨z, its, r, ob, k _ _ (.inl rfl) e, c⟩
  | dK kvs => obtain ⟨z, y, vs, r, ob, es, ep, e, c⟩ := x; exact ⟨z, y, vs, r, ob, es, ep, k _ _ (.inl rfl) e, c⟩
  | dT kvs =>
    obtain ⟨z, y, xs, r, ob, es, ep, e, c⟩ := x
    exact ⟨z, y, xs, Paired.mapP r fun p q z => ⟨z.1, ht _ _ z.2.1, z.2.2⟩, ob, es, ep, k _ _ (.inl rfl) e, c⟩
  | set S n => obtain ⟨ob, es, ep, t, e, c⟩ := x; exact ⟨ob, es, ep, t, k _ _ (.inl rfl) e, c⟩
  | ins C dx fs =>
    obtain ⟨d, z, ne, e, mA, ⟨od, es, ep, e2, c⟩, r⟩ := x
    exact ⟨ho _ d, z, ne, k _ _ (.inl rfl) e, mA, ⟨od, es, ep, k _ _ (.inr d) e2, c⟩, r⟩
  | own y => obtain ⟨ob, e⟩ := x; exact ⟨ob, k _ _ (.inl rfl) e⟩
  | xd fs => obtain ⟨mA, ⟨od, es, ep, e, c⟩, r⟩ := x; exact ⟨mA, ⟨od, es, ep, k _ _ (.inl rfl) e, c⟩, r⟩
  | rng lo hi => obtain ⟨t, u, v, e⟩ := x; exact ⟨t, u, v, k _ _ (.inl rfl) e⟩
  | frz ob u ih => obtain ⟨e, q⟩ := x; exact ⟨k _ _ (.inl rfl) e, ih q⟩
  | tbl ps =>
    have e : h.get? a = some { cls := .none, data := .fields ps } := x
    show h'.get? a = some { cls := .none, data := .fields ps }
    exact k a _ (.inl rfl) e
  | met f y =>
    have e : h.get? a = some (PySem.W.methodObj (.ref f) (.ref y)) := x
    show h'.get? a = some (PySem.W.methodObj (.ref f) (.ref y))
    exact k a _ (.inl rfl) e
  | ext φ => obtain ⟨p, ⟨o, e⟩, st⟩ := x; exact ⟨st _ _ p fun o q => k _ _ (.inl rfl) q, ⟨o, k _ _ (.inl rfl) e⟩, st⟩
theorem HOk.lt (x : HOk P w H h) (e : H a = some o) : a < h.objs.size := (x a o e).lt
theorem HOk.fresh (x : HOk P w H h) (e : h.objs.size ≤ a) : H a = none := by
  cases q : H a with
  | none => rfl
  | some u => exact absurd (Nat.lt_of_lt_of_le (x.lt q) e) (Nat.lt_irrefl _)
/-- every object of the heap is kept -/
theorem HOk.kept (x : HOk P w H h) (k : ∀ b u, h.get? b = some u → h'.get? b = some u) : HOk P w H h' := fun a o e =>
  (x a o e).stay (fun b u _ q => k b u q) (fun _ q => q) fun _ _ q => q
/-- a new object is laid and tracked -/
theorem HOk.laid (x : HOk P w H h) (k : ∀ b u, h.get? b = some u → h'.get? b = some u) (hp : h.objs.size ≤ a) (new : ObjOk P w (upd H a o) h' a o) : HOk P w (upd H a o) h' := fun b u e => by
  have hn := x.fresh hp
  by_cases hb : b = a
  · subst hb; rw [upd_same] at e; cases e; exact new
  · rw [upd_ne hb] at e
    exact (x b u e).stay (fun c v _ q => k c v q) (fun c q => by rw [upd_ne (ne_of_none q hn)]; exact q) fun c xs q => by rw [upd_ne (ne_of_none q hn)]; exact q
end

/-- what may be read as u: it is u, or a known u -/
def Rd (H : Hp) (a : Addr) (u : HO) : Prop := H a = some u ∨ ∃ o, H a = some (.frz o u)
theorem Rd.ok {P : Program} {w : World} {H : Hp} {h : Heap} {a : Addr} {u : HO} (r : Rd H a u) (x : HOk P w H h) : ObjOk P w H h a u := by
  rcases r with r | ⟨o, r⟩
  · exact x a u r
  · obtain ⟨_, q⟩ := x a _ r
    exact q
/-- what may be written -/
def Mut : Option HO → Prop
  | some (.lst _) => True
  | some (.dK _) => True
  | some (.dT _) => True
  | some (.set _ _) => True
  | some (.ins _ _ _) => True
  | some (.ext _) => True
  | _ => False
section
variable {P : Program} {w : World} {H : Hp} {h h' : Heap} {x e : Addr} {o' : HO}
/-- the object at e is changed: x itself, or the dict of the instance x -/
theorem HOk.write (ok : HOk P w H h) (mu : Mut (H x)) (he : e = x ∨ H e = some (.own x)) (k : ∀ b u, b ≠ e → h.get? b = some u → h'.get? b = some u) (heo : ∃ u, h'.get? e = some u)
    (new : ObjOk P w (upd H x o') h' x o') : HOk P w (upd H x o') h' := fun b u q => by
  have nown : ∀ c y, H c = some (.own y) → c ≠ x := fun c y r z => by subst z; rw [r] at mu; exact mu
  have ntup : ∀ c xs, H c = some (.tup xs) → c ≠ x := fun c xs r z => by subst z; rw [r] at mu; exact mu
  by_cases hb : b = x
  · subst hb; rw [upd_same] at q; cases q; exact new
  · rw [upd_ne hb] at q
    by_cases hbe : b = e
    · have q' : H b = some (.own x) := by
        rcases he with z | z
        · exact absurd (hbe.trans z) hb
        · rw [hbe]; exact z
      rw [q] at q'; cases q'
      obtain ⟨v, hv⟩ := heo
      exact ⟨v, by rw [hbe]; exact hv⟩
    · refine (ok b u q).stay (fun c v hc r => k c v ?_ r) (fun c r => by rw [upd_ne (nown c b r)]; exact r) fun c xs r => by rw [upd_ne (ntup c xs r)]; exact r
      rcases hc with rfl | hc
      · exact hbe
      · rintro rfl
        rcases he with z | z
        · exact nown c b hc z
        · rw [hc] at z; cases z; exact hb rfl
end

structure Un (fs ex : List Addr) (H H' : Hp) (h h' : Heap) : Prop where
  keep : ∀ b o, h.get? b = some o → H b = none → b ∉ fs → b ∉ ex → h'.get? b = some o
  slot : ∀ b o, h.get? b = some o → H b = none → b ∈ fs → b ∉ ex → ∃ sl, h'.get? b = some { o with slots := sl }
  free : ∀ b o, h.get? b = some o → H b = none → b ∉ ex → H' b = none
  there : ∀ b o, h.get? b = some o → b ∉ ex → ∃ o', h'.get? b = some o'
  tups : ∀ b xs, H b = some (.tup xs) → H' b = some (.tup xs)
  frzs : ∀ b o u, H b = some (.frz o u) → H' b = some (.frz o u)
  tbls : ∀ b ps, H b = some (.tbl ps) → ∃ more, H' b = some (.tbl (ps ++ more))
section
variable {fs fs' ex ex' : List Addr} {H H1 H2 : Hp} {h h1 h2 h' : Heap} {a x e : Addr} {o : HO}
theorem Un.any (u : Un fs ex H H1 h h1) {b : Addr} {ob : Obj} (q : h.get? b = some ob) (n : H b = none) (hx : b ∉ ex) : ∃ sl, h1.get? b = some { ob with slots := sl } := by
  by_cases hb : b ∈ fs
  · exact u.slot b ob q n hb hx
  · exact ⟨ob.slots, u.keep b ob q n hb hx⟩
theorem Un.kept (k : ∀ b u, h.get? b = some u → h'.get? b = some u) : Un fs ex H H h h' :=
  ⟨fun b ob q _ _ _ => k b ob q, fun b ob q _ _ _ => ⟨ob.slots, k b ob q⟩, fun _ _ _ n _ => n, fun b ob q _ => ⟨ob, k b ob q⟩, fun _ _ q => q, fun _ _ _ q => q, fun _ ps q => ⟨#[], by rw [q]; simp⟩⟩
theorem Un.refl : Un fs ex H H h h := Un.kept fun _ _ q => q
theorem Un.laid (k : ∀ b u, h.get? b = some u → h'.get? b = some u) (hp : h.objs.size ≤ a) (hn : H a = none) : Un fs ex H (upd H a o) h h' where
  keep := fun b u q _ _ _ => k b u q
  slot := fun b u q _ _ _ => ⟨u.slots, k b u q⟩
  free := fun b u q n _ => by rw [upd_ne (Nat.ne_of_lt (Nat.lt_of_lt_of_le (Heap.lt_size q) hp))]; exact n
  there := fun b u q _ => ⟨u, k b u q⟩
  tups := fun b xs q => by rw [upd_ne (ne_of_none q hn)]; exact q
  frzs := fun b u xs q => by rw [upd_ne (ne_of_none q hn)]; exact q
  tbls := fun b ps q => ⟨#[], by rw [upd_ne (ne_of_none q hn), q]; simp⟩
theorem Un.write (mu : Mut (H x)) (he : e = x ∨ H e = some (.own x)) (k : ∀ b u, b ≠ e → h.get? b = some u → h'.get? b = some u) (heo : ∃ u, h'.get? e = some u) : Un fs ex H (upd H x o) h h' := by
  have hx : ∀ b, H b = none → b ≠ x := fun b n z => by subst z; rw [n] at mu; exact mu
  have hb : ∀ b, H b = none → b ≠ e := fun b n z => by
    subst z
    rcases he with r | r
    · exact hx b n r
    · rw [n] at r; cases r
  have hm : ∀ b u, H b = some u → ¬ Mut (some u) → b ≠ x := fun b u q nm z => by subst z; rw [q] at mu; exact nm mu
  refine ⟨fun b u q n _ _ => k b u (hb b n) q, fun b u q n _ _ => ⟨u.slots, k b u (hb b n) q⟩, fun b u q n _ => by rw [upd_ne (hx b n)]; exact n, fun b u q _ => ?_,
    fun b xs q => by rw [upd_ne (hm b _ q fun z => z)]; exact q, fun b u xs q => by rw [upd_ne (hm b _ q fun z => z)]; exact q, fun b ps q => ⟨#[], by rw [upd_ne (hm b _ q fun z => z), q]; simp⟩⟩
  by_cases hbe : b = e
  · subst hbe; exact heo
  · exact ⟨u, k b u hbe q⟩
end

def trk (h : Heap) (H : Hp) : List Addr := (List.range h.objs.size).filter fun a => (H a).isSome
def hidT (h : Heap) (H : Hp) : Heap := PySem.W.hideAll h (trk h H)
theorem hidT_size (h : Heap) (H : Hp) : (hidT h H).objs.size = h.objs.size := PySem.W.hideAll_size _ _
theorem hidT_get {h : Heap} {H : Hp} {b : Addr} {o : Obj} (e : h.get? b = some o) (n : H b = none) : (hidT h H).get? b = some o :=
  PySem.W.hideAll_get _ e fun hm => by
    have q : (H b).isSome = true := (List.mem_filter.mp hm).2
    rw [n] at q; simp at q
theorem of_hidT {h : Heap} {H : Hp} {b : Addr} {o : Obj} (e : (hidT h H).get? b = some o) : h.get? b = some o ∧ H b = none := by
  have e' : h.get? b = some o := PySem.W.of_hideAll (trk h H) e
  refine ⟨e', ?_⟩
  cases q : H b with
  | none => rfl
  | some x =>
    have hm : b ∈ trk h H := List.mem_filter.mpr ⟨List.mem_range.mpr (Heap.lt_size e'), by simp [q]⟩
    have z : (hidT h H).get? b = none := PySem.W.hideAll_none (trk h H) hm
    rw [z] at e; cases e

end L2

namespace L2
open PySem PySem.Spec PyProof.Rows

/-- the module's facts, over the base: the heap at the law's entry without what is tracked there -/
structure Mod (K : PySem.W.Frag) (mg : Str → Option Value) (base : Heap) : Prop where
  kin : K.In base
  glob : base.Ns mainGlobals mg
  blt : ∃ mb, base.Ns builtinsNs mb ∧ ∀ x : Str, x ≠ "__name__" → mb x = bootBuiltins x
  nolimit : base.NoLimit

/-- the context: a def's body (or a comprehension's block) running. base: fixed through the whole law; s₀, H₀: the entry; outer: the frames whose slots others may change (a def's callers); stack: all frames that run;
   ex: iterators that were made ahead of the entry and are walked here (a comprehension's); fn: the names whose cells were made at the entry (a def: all; a comprehension's block: its own); calm: not within an except suite; pn: pins that every state bears; xe: what is wanted of an exception that leaves the code -/
structure Cx where
  prog : Program
  w : World
  K : PySem.W.Frag
  mg : Str → Option Value
  base : Heap
  A : Around
  N : List Str
  s_0 : Shared
  H_0 : Hp
  env : Env
  outer : List Env
  stack : List Env
  ex : List Addr
  fn : Str → Bool
  calm : Bool
  pn : List (Addr × Obj)
  xe : Value → Shared → Prop
/-- the callers' frames -/
def frs (l : List Env) : List Addr := l.filterMap (·.frame)
abbrev Cx.fs (X : Cx) : List Addr := frs X.outer

def Vis (sc : Scope) (x : Str) : Prop := sc.names.lookup x = some .local ∨ sc.names.lookup x = some .cell ∨ sc.names.lookup x = some .free
def Loc (sc : Scope) (x : Str) : Prop := sc.names.lookup x = some .local ∨ sc.names.lookup x = some .cell
def Look (env : Env) (h : Heap) (m : Str → Option Value) (x : Str) (u : Value) : Prop :=
  (env.kindOf x = some .local ∧ m x = some u) ∨ ((env.kindOf x = some .cell ∨ env.kindOf x = some .free) ∧ ∃ c, env.cells.lookup x = some c ∧ h.IsCell c (some u))

structure Cx.Ok (X : Cx) : Prop where
  mod : Mod X.K X.mg X.base
  kind : X.env.scope.kind = .function
  glob : X.env.globals = mainGlobals
  blt : X.env.builtins = builtinsNs
  above : X.s_0.heap.objs.size ≤ X.env.locals
  inj : ∀ x y c, X.env.cells.lookup x = some c → X.env.cells.lookup y = some c → x = y
  has : ∀ x, (X.env.kindOf x = some .cell ∨ X.env.kindOf x = some .free) → ∃ c, X.env.cells.lookup x = some c
  cab : ∀ x c, X.fn x = true → X.env.cells.lookup x = some c → X.s_0.heap.objs.size ≤ c
  hd : X.calm = true → X.A.handled = none
  frames : X.A.frames = some X.stack
  stk : X.stack = X.outer ∨ (X.stack = X.env :: X.outer ∧ X.env.frame = some X.env.locals)
  exf : ∀ b ∈ X.ex, b ≠ X.env.locals ∧ ∀ x c, X.env.cells.lookup x = some c → c ≠ b
  bs : ∀ b o, X.base.get? b = some o → X.s_0.heap.get? b = some o ∧ X.H_0 b = none
  bsz : X.base.objs.size ≤ X.s_0.heap.objs.size
  noex : ∀ b o, X.base.get? b = some o → b ∉ X.ex
  exfs : ∀ b ∈ X.ex, b ∉ X.fs
  funs : X.s_0.heap.FunFrames X.base X.outer
  frf : ∀ b ∈ X.fs, X.H_0 b = none

structure Inv (X : Cx) (pins : List (Addr × Obj)) (σ : List (Option V)) (H : Hp) (s : Shared) : Prop where
  ok : X.Ok
  os : s.os = X.s_0.os
  bare : AllBare s.gens
  base : Un X.fs X.ex X.H_0 H X.s_0.heap s.heap
  loc : ∃ m, s.heap.Ns X.env.locals m ∧ ∀ (i : Nat) (x : Str) (v : V), X.N[i]? = some x → σ[i]? = some (some v) → Vis X.env.scope x → ∃ u, RelV v u ∧ Look X.env s.heap m x u
  cell : ∀ x c, X.env.cells.lookup x = some c → ∃ v, s.heap.IsCell c v
  free : H X.env.locals = none
  freeC : ∀ x c, X.env.cells.lookup x = some c → H c = none
  pin : ∀ p ∈ X.pn ++ pins, s.heap.get? p.1 = some p.2 ∧ H p.1 = none ∧ p.1 ≠ X.env.locals ∧ p.1 ∉ X.fs ∧ ∀ v, p.2.data ≠ .cell v
  hok : HOk X.prog X.w H s.heap
  len : σ.length = X.N.length

section
variable {X : Cx} {pins : List (Addr × Obj)} {σ : List (Option V)} {H H' : Hp} {s : Shared} {h' : Heap}

theorem Cx.Ok.nofr (ok : X.Ok) {b : Addr} {o : Obj} (e : X.base.get? b = some o) : b ∉ X.fs := fun hb => by
  have := (ok.funs.mem hb).1
  rw [e] at this; cases this
theorem Inv.bs (I : Inv X pins σ H s) : ∀ b o, X.base.get? b = some o → s.heap.get? b = some o ∧ H b = none := fun b o e =>
  ⟨I.base.keep b o (I.ok.bs b o e).1 (I.ok.bs b o e).2 (I.ok.nofr e) (I.ok.noex b o e), I.base.free b o (I.ok.bs b o e).1 (I.ok.bs b o e).2 (I.ok.noex b o e)⟩
theorem Inv.bk (I : Inv X pins σ H s) : ∀ b o, X.base.get? b = some o → s.heap.get? b = some o := fun b o e => (I.bs b o e).1
theorem Inv.mod (I : Inv X pins σ H s) : Mod X.K X.mg X.base := I.ok.mod
theorem Inv.kIn (I : Inv X pins σ H s) : X.K.In s.heap := I.ok.mod.kin.keeps I.bk
/-- the frame over the base: for OpenK's rules (K.In X.base is I.mod.kin) -/
theorem Inv.fr (I : Inv X pins σ H s) : ∃ m, Fr X.base X.env.locals s.heap m :=
  let ⟨m, hn, _⟩ := I.loc
  ⟨m, hn, I.bk, Nat.le_trans I.ok.bsz I.ok.above⟩
theorem Inv.lt (I : Inv X pins σ H s) : X.env.locals < s.heap.objs.size := let ⟨_, hn, _⟩ := I.loc; hn.lt
theorem Inv.sz (I : Inv X pins σ H s) : X.s_0.heap.objs.size ≤ s.heap.objs.size := Nat.le_trans I.ok.above (Nat.le_of_lt I.lt)
theorem Inv.nofs (I : Inv X pins σ H s) {a : Addr} (h : s.heap.objs.size ≤ a) : a ∉ X.fs := fun hb => by
  obtain ⟨_, o, ho, _⟩ := I.ok.funs.mem hb
  exact absurd (Nat.lt_of_lt_of_le (Heap.lt_size ho) (Nat.le_trans I.sz h)) (Nat.lt_irrefl _)
theorem Inv.cne (I : Inv X pins σ H s) : ∀ x c, X.env.cells.lookup x = some c → c ≠ X.env.locals := fun x c e z => by
  obtain ⟨v, o, ho, hd⟩ := I.cell x c e
  obtain ⟨m, ⟨o', es, ep, ho', hd', _⟩, _⟩ := I.loc
  rw [z, ho'] at ho; cases ho; rw [hd'] at hd; cases hd
theorem Inv.funs (I : Inv X pins σ H s) : s.heap.FunFrames X.base X.outer := by
  have all : ∀ (l : List Env), (∀ b ∈ frs l, b ∈ X.fs) → X.s_0.heap.FunFrames X.base l → s.heap.FunFrames X.base l := by
    intro l
    induction l with
    | nil => intro _ _; trivial
    | cons env r ih =>
      intro hs hl
      obtain ⟨hk, ⟨L, o, hf, hn, ho, hd⟩, hr⟩ := hl
      have hL : L ∈ X.fs := hs L (by unfold frs; rw [List.filterMap_cons, hf]; exact List.mem_cons_self)
      obtain ⟨sl, e⟩ := I.base.slot L o ho (I.ok.frf L hL) hL fun z => I.ok.exfs L z hL
      exact ⟨hk, ⟨L, _, hf, hn, e, hd⟩, ih (fun b hb => hs b (by unfold frs; rw [List.filterMap_cons, hf]; exact List.mem_cons_of_mem _ hb)) hr⟩
  exact all X.outer (fun _ hb => hb) I.ok.funs

/-- the frames that run, for a call -/
theorem Inv.stack (I : Inv X pins σ H s) : s.heap.FunFrames X.base X.stack := by
  rcases I.ok.stk with e | ⟨e, hf⟩
  · rw [e]; exact I.funs
  · rw [e]
    obtain ⟨m, hn, _⟩ := I.loc
    refine .cons (by rw [I.ok.kind]; decide) hf hn ?_ I.funs
    exact Heap.get?_none_of_le (Nat.le_trans I.ok.bsz I.ok.above)
theorem Inv.stkSub (I : Inv X pins σ H s) : ∀ b ∈ frs X.stack, b ∈ X.env.locals :: X.fs := fun b hb => by
  rcases I.ok.stk with e | ⟨e, hf⟩
  · rw [e] at hb; exact List.mem_cons_of_mem _ hb
  · rw [e] at hb
    unfold frs at hb
    rw [List.filterMap_cons, hf] at hb
    exact hb
theorem Inv.stkFree (I : Inv X pins σ H s) : ∀ b ∈ frs X.stack, H b = none := fun b hb => by
  rcases List.mem_cons.mp (I.stkSub b hb) with e | hb
  · rw [e]; exact I.free
  · obtain ⟨_, o, ho, _⟩ := I.ok.funs.mem hb
    exact I.base.free b o ho (I.ok.frf b hb) fun z => I.ok.exfs b z hb

/-- THE STEP: the untracked objects but the frame and the records at ch are kept (the callers' frames up to slots), the frame's map is kept, the new abstract heap is held -/
theorem Inv.step {g' : Array GenState} {t' : Nat} {d' : Drawn} {ch : List Addr} (I : Inv X pins σ H s)
    (hch : ∀ b ∈ ch, (b ∈ X.ex ∨ X.s_0.heap.objs.size ≤ b) ∧ b ≠ X.env.locals ∧ (∀ x c, X.env.cells.lookup x = some c → c ≠ b) ∧ ∀ p ∈ X.pn ++ pins, p.1 ≠ b)
    (keep : ∀ b o, b ≠ X.env.locals → b ∉ X.fs → b ∉ ch → s.heap.get? b = some o → H b = none → h'.get? b = some o)
    (slot : ∀ b o, b ≠ X.env.locals → b ∈ X.fs → b ∉ ch → s.heap.get? b = some o → H b = none → ∃ sl, h'.get? b = some { o with slots := sl }) (free : ∀ b o, b ∉ ch → s.heap.get? b = some o → H b = none → H' b = none)
    (there : ∀ b o, b ∉ ch → s.heap.get? b = some o → ∃ o', h'.get? b = some o')
    (tups : ∀ b xs, H b = some (.tup xs) → H' b = some (.tup xs)) (frzs : ∀ b o u, H b = some (.frz o u) → H' b = some (.frz o u)) (tbls : ∀ b ps, H b = some (.tbl ps) → ∃ more, H' b = some (.tbl (ps ++ more)))
    (ns : ∀ m, s.heap.Ns X.env.locals m → h'.Ns X.env.locals m) (hok : HOk X.prog X.w H' h') (hg : AllBare g') :
    Inv X pins σ H' { s with heap := h', gens := g', drawn := d', toks := t' } := by
  have neL : ∀ b o, X.s_0.heap.get? b = some o → b ≠ X.env.locals := fun b o e => Nat.ne_of_lt (Nat.lt_of_lt_of_le (Heap.lt_size e) I.ok.above)
  have neC : ∀ b o, X.s_0.heap.get? b = some o → b ∉ X.ex → b ∉ ch := fun b o e hx hb => by
    rcases (hch b hb).1 with z | z
    · exact hx z
    · exact absurd (Nat.lt_of_lt_of_le (Heap.lt_size e) z) (Nat.lt_irrefl _)
  have cellK : ∀ x c, X.env.cells.lookup x = some c → ∀ v, s.heap.IsCell c v → h'.IsCell c v := fun x c e v ⟨o, ho, hd⟩ => by
    have nch : c ∉ ch := fun z => (hch c z).2.2.1 x c e rfl
    by_cases hc : c ∈ X.fs
    · obtain ⟨sl, q⟩ := slot c o (I.cne x c e) hc nch ho (I.freeC x c e)
      exact ⟨_, q, hd⟩
    · exact ⟨o, keep c o (I.cne x c e) hc nch ho (I.freeC x c e), hd⟩
  refine ⟨I.ok, I.os, hg, ⟨fun b o e n hb hx => ?_, fun b o e n hb hx => ?_, fun b o e n hx => ?_, fun b o e hx => ?_, fun b xs e => tups b xs (I.base.tups b xs e), fun b o xs e => frzs b o xs (I.base.frzs b o xs e), fun b ps e => ?_⟩, ?_, fun x c e => ?_, ?_, fun x c e => ?_, fun p hp => ?_, hok, I.len⟩
  · exact keep b o (neL b o e) hb (neC b o e hx) (I.base.keep b o e n hb hx) (I.base.free b o e n hx)
  · obtain ⟨sl, e1⟩ := I.base.slot b o e n hb hx
    obtain ⟨sl', e2⟩ := slot b _ (neL b o e) hb (neC b o e hx) e1 (I.base.free b o e n hx)
    exact ⟨sl', e2⟩
  · obtain ⟨o', e1⟩ := I.base.there b o e hx
    exact free b o' (neC b o e hx) e1 (I.base.free b o e n hx)
  · obtain ⟨o', e1⟩ := I.base.there b o e hx
    exact there b o' (neC b o e hx) e1
  · obtain ⟨m1, e1⟩ := I.base.tbls b ps e
    obtain ⟨m2, e2⟩ := tbls b _ e1
    exact ⟨m1 ++ m2, by rw [e2, Array.append_assoc]⟩
  · obtain ⟨m, hn, hl⟩ := I.loc
    refine ⟨m, ns m hn, fun i x v e1 e2 e3 => ?_⟩
    obtain ⟨u, r, l⟩ := hl i x v e1 e2 e3
    refine ⟨u, r, ?_⟩
    rcases l with l | ⟨k, c, e, z⟩
    · exact .inl l
    · exact .inr ⟨k, c, e, cellK x c e _ z⟩
  · obtain ⟨v, z⟩ := I.cell x c e
    exact ⟨v, cellK x c e v z⟩
  · obtain ⟨m, ⟨o, _, _, ho, _⟩, _⟩ := I.loc
    exact free _ o (fun z => (hch _ z).2.1 rfl) ho I.free
  · obtain ⟨v, o, ho, hd⟩ := I.cell x c e
    exact free c o (fun z => (hch c z).2.2.1 x c e rfl) ho (I.freeC x c e)
  · obtain ⟨e, n, ne, nf, d⟩ := I.pin p hp
    have nch : p.1 ∉ ch := fun z => (hch p.1 z).2.2.2 p hp rfl
    exact ⟨keep p.1 p.2 ne nf nch e n, free p.1 p.2 nch e n, ne, nf, d⟩
/-- .. where the frame's own object is kept too -/
theorem Inv.un {t' : Nat} (I : Inv X pins σ H s) (u : Un X.fs [] H H' s.heap h') (hok : HOk X.prog X.w H' h') : Inv X pins σ H' { s with heap := h', toks := t' } := by
  obtain ⟨m, ⟨o, es, ep, ho, r⟩, _⟩ := id I.loc
  obtain ⟨sl, hL⟩ := u.any ho I.free (by simp)
  exact I.step (g' := s.gens) (d' := s.drawn) (ch := []) (fun _ z => nomatch z) (fun b o _ hb _ e n => u.keep b o e n hb (by simp)) (fun b o _ hb _ e n => u.slot b o e n hb (by simp)) (fun b o _ e n => u.free b o e n (by simp)) (fun b o _ e => u.there b o e (by simp)) u.tups u.frzs u.tbls (fun m' hm => by
    obtain ⟨o', es', ep', ho', r'⟩ := hm
    rw [ho] at ho'; cases ho'
    exact ⟨_, es', ep', hL, r'⟩) hok I.bare
/-- behind a call (or a comprehension's block): the slots of this frame may have changed too, the records at ch may have turned -/
theorem Inv.call {g' : Array GenState} {t' : Nat} {d' : Drawn} {ch : List Addr} (I : Inv X pins σ H s) (u : Un (frs X.stack) ch H H' s.heap h') (hok : HOk X.prog X.w H' h') (hg : AllBare g')
    (hch : ∀ b ∈ ch, (b ∈ X.ex ∨ X.s_0.heap.objs.size ≤ b) ∧ b ≠ X.env.locals ∧ (∀ x c, X.env.cells.lookup x = some c → c ≠ b) ∧ ∀ p ∈ X.pn ++ pins, p.1 ≠ b) :
    Inv X pins σ H' { s with heap := h', gens := g', drawn := d', toks := t' } := by
  obtain ⟨m, ⟨o, es, ep, ho, r⟩, _⟩ := id I.loc
  obtain ⟨sl, hL⟩ := u.any ho I.free fun z => (hch _ z).2.1 rfl
  exact I.step (ch := ch) hch (fun b o hL hb hc e n => u.keep b o e n (fun z => (List.mem_cons.mp (I.stkSub b z)).elim hL hb) hc) (fun b o _ _ hc e n => u.any e n hc) (fun b o hc e n => u.free b o e n hc) (fun b o hc e => u.there b o e hc) u.tups u.frzs u.tbls (fun m' hm => by
    obtain ⟨o', es', ep', ho', r'⟩ := hm
    rw [ho] at ho'; cases ho'
    exact ⟨_, es', ep', hL, r'⟩) hok hg
/-- an untracked record of ours (an iterator) has turned -/
theorem Inv.turned {t' : Nat} {it : Addr} (I : Inv X pins σ H s) (k : ∀ b o, b ≠ it → s.heap.get? b = some o → h'.get? b = some o) (hn : H it = none) (hL : it ≠ X.env.locals)
    (h1 : it ∈ X.ex ∨ X.s_0.heap.objs.size ≤ it) (h2 : ∀ x c, X.env.cells.lookup x = some c → c ≠ it) (h3 : ∀ p ∈ X.pn ++ pins, p.1 ≠ it) : Inv X pins σ H { s with heap := h', toks := t' } := by
  have nit : ∀ b u, H b = some u → b ≠ it := fun b u e z => by rw [z, hn] at e; cases e
  refine I.step (g' := s.gens) (d' := s.drawn) (ch := [it]) (fun b hb => ?_) (fun b o _ _ hc e _ => k b o (fun z => hc (by simp [z])) e) (fun b o _ _ hc e _ => ⟨o.slots, k b o (fun z => hc (by simp [z])) e⟩) (fun _ _ _ _ n => n)
    (fun b o hc e => ⟨o, k b o (fun z => hc (by simp [z])) e⟩) (fun _ _ e => e) (fun _ _ _ e => e) (fun b ps e => ⟨#[], by rw [e]; simp⟩) (fun m hm => ?_) (fun b u e => ?_) I.bare
  · have e : b = it := by simpa using hb
    subst e
    exact ⟨h1, hL, h2, h3⟩
  · obtain ⟨o, es, ep, ho, r⟩ := hm
    exact ⟨o, es, ep, k _ o (Ne.symm hL) ho, r⟩
  · refine (I.hok b u e).stay (fun c v hc q => k c v ?_ q) (fun _ q => q) fun _ _ q => q
    rcases hc with z | z
    · rw [z]; exact nit b u e
    · exact nit c _ z
theorem Inv.tok (I : Inv X pins σ H s) (t : Nat) : Inv X pins σ H { s with toks := t } := I.un (h' := s.heap) (t' := t) Un.refl I.hok
/-- all objects kept -/
theorem Inv.kept {t' : Nat} (I : Inv X pins σ H s) (k : ∀ b u, s.heap.get? b = some u → h'.get? b = some u) : Inv X pins σ H { s with heap := h', toks := t' } := I.un (Un.kept k) (I.hok.kept k)
/-- a new object laid and tracked -/
theorem Inv.laid {a : Addr} {o : HO} {t' : Nat} (I : Inv X pins σ H s) (k : ∀ b u, s.heap.get? b = some u → h'.get? b = some u) (hp : s.heap.objs.size ≤ a) (new : ObjOk X.prog X.w (upd H a o) h' a o) :
    Inv X pins σ (upd H a o) { s with heap := h', toks := t' } := I.un (Un.laid k hp (I.hok.fresh hp)) (I.hok.laid k hp new)
/-- an object written -/
theorem Inv.write {x e : Addr} {o : HO} {t' : Nat} (I : Inv X pins σ H s) (mu : Mut (H x)) (he : e = x ∨ H e = some (.own x)) (k : ∀ b u, b ≠ e → s.heap.get? b = some u → h'.get? b = some u) (heo : ∃ u, h'.get? e = some u)
    (new : ObjOk X.prog X.w (upd H x o) h' x o) : Inv X pins σ (upd H x o) { s with heap := h', toks := t' } := I.un (Un.write mu he k heo) (I.hok.write mu he k heo new)
/-- forgetting slots, pins -/
theorem Inv.weak {σ' : List (Option V)} (I : Inv X pins σ H s) (hl : σ'.length = σ.length) (w : ∀ (i : Nat) v, σ'[i]? = some (some v) → σ[i]? = some (some v)) : Inv X pins σ' H s :=
  ⟨I.ok, I.os, I.bare, I.base, let ⟨m, hn, hl'⟩ := I.loc; ⟨m, hn, fun i x v e1 e2 e3 => hl' i x v e1 (w i v e2) e3⟩, I.cell, I.free, I.freeC, I.pin, I.hok, hl.trans I.len⟩
theorem Inv.pins_of {pins' : List (Addr × Obj)} (I : Inv X pins σ H s) (h : ∀ p ∈ pins', s.heap.get? p.1 = some p.2 ∧ H p.1 = none ∧ p.1 ≠ X.env.locals ∧ p.1 ∉ X.fs ∧ ∀ v, p.2.data ≠ .cell v) : Inv X pins' σ H s :=
  ⟨I.ok, I.os, I.bare, I.base, I.loc, I.cell, I.free, I.freeC, fun p hp => (List.mem_append.mp hp).elim (fun z => I.pin p (List.mem_append_left _ z)) (h p), I.hok, I.len⟩

theorem nodup_ix {N : List Str} (hN : N.Nodup) {i j : Nat} {x : Str} (a : N[i]? = some x) (b : N[j]? = some x) : i = j := by
  obtain ⟨h1, e1⟩ := List.getElem?_eq_some_iff.mp a
  obtain ⟨h2, e2⟩ := List.getElem?_eq_some_iff.mp b
  exact (List.getElem_inj hN).mp (e1.trans e2.symm)

/-- a name is stored; what changed -/
theorem store_ok2 {M : Model} {A : Around} {E : Value → Shared → Prop} {i : Nat} {x : Str} {v : V} {u : Value} {Q : Unit → Shared → Prop} (I : Inv X pins σ H s) (hN : X.N.Nodup) (hi : X.N[i]? = some x) (hx : Loc X.env.scope x) (r : RelV v u)
    (h : ∀ s', Inv X pins (σ.set i (some v)) H s' → (∃ a, Heap.SameBut a s.heap s'.heap ∧ (a = X.env.locals ∨ X.env.cells.lookup x = some a)) → Q () s') (hf : X.fn x = true ∨ X.env.scope.names.lookup x = some .local := by first | exact .inl rfl | exact .inr rfl | assumption) : wpAny M A (storeName X.env x u) Q E s := by
  obtain ⟨m, hn, hl⟩ := id I.loc
  have hcls : (X.env.scope.kind == .class || (X.env.scope.kind == .module && X.env.locals != X.env.globals)) = false := by rw [I.ok.kind]; rfl
  have hiσ : i < σ.length := by rw [I.len]; exact (List.getElem?_eq_some_iff.mp hi).1
  have cne := I.cne
  have tracked : ∀ {a : Addr} {h' : Heap}, (∃ o, s.heap.get? a = some o ∧ H a = none) → Heap.SameBut a s.heap h' → HOk X.prog X.w H h' := fun {a h'} ha hs b ob e => by
    obtain ⟨_, _, hfree⟩ := ha
    refine (I.hok b ob e).stay (fun c w' hc q => (hs.2 c ?_).trans q) (fun _ q => q) fun _ _ q => q
    rintro rfl
    rcases hc with rfl | hc
    · rw [hfree] at e; cases e
    · rw [hfree] at hc; cases hc
  rcases hx with hk | hk
  · refine wpAny_storeName_local hk hn (fun h' hn' hs => ?_) hcls
    obtain ⟨oL, _, _, hoL, _⟩ := id hn
    refine h _ ⟨I.ok, I.os, I.bare, ⟨fun b o e n hb hx => ?_, fun b o e n hb hx => ?_, I.base.free, fun b o e hx => ?_, I.base.tups, I.base.frzs, I.base.tbls⟩, ⟨_, hn', fun j y v' e1 e2 e3 => ?_⟩, fun y c e => ?_, I.free, I.freeC, fun p hp => ?_, tracked ⟨oL, hoL, I.free⟩ hs, by simpa using I.len⟩ ⟨_, hs, .inl rfl⟩
    · exact (hs.2 b (Nat.ne_of_lt (Nat.lt_of_lt_of_le (Heap.lt_size e) I.ok.above))).trans (I.base.keep b o e n hb hx)
    · obtain ⟨sl, e1⟩ := I.base.slot b o e n hb hx
      exact ⟨sl, (hs.2 b (Nat.ne_of_lt (Nat.lt_of_lt_of_le (Heap.lt_size e) I.ok.above))).trans e1⟩
    · obtain ⟨o', e1⟩ := I.base.there b o e hx
      exact ⟨o', (hs.2 b (Nat.ne_of_lt (Nat.lt_of_lt_of_le (Heap.lt_size e) I.ok.above))).trans e1⟩
    · by_cases hj : j = i
      · subst hj
        rw [hi] at e1; cases e1
        rw [List.getElem?_set_self hiσ] at e2
        cases e2
        exact ⟨u, r, .inl ⟨hk, by simp⟩⟩
      · rw [List.getElem?_set_ne (Ne.symm hj)] at e2
        obtain ⟨u', r', q⟩ := hl j y v' e1 e2 e3
        refine ⟨u', r', ?_⟩
        rcases q with ⟨k, e⟩ | ⟨k, c, e, z⟩
        · refine .inl ⟨k, ?_⟩
          have : y ≠ x := fun e => hj (nodup_ix hN e1 (e ▸ hi))
          simp [this, e]
        · exact .inr ⟨k, c, e, z.sameBut hs (cne y c e)⟩
    · obtain ⟨w', z⟩ := I.cell y c e
      exact ⟨w', z.sameBut hs (cne y c e)⟩
    · obtain ⟨e, n, ne, nf, d⟩ := I.pin p hp
      exact ⟨(hs.2 p.1 ne).trans e, n, ne, nf, d⟩
  · have hfn : X.fn x = true := by
      rcases hf with z | z
      · exact z
      · rw [z] at hk; cases hk
    obtain ⟨c, hc⟩ := I.ok.has x (.inl hk)
    obtain ⟨w', z⟩ := I.cell x c hc
    refine wpAny_storeName_cell I.ok.kind hk hc z (fun h' hc' hs => ?_)
    obtain ⟨oc, hoc, hocd⟩ := id z
    refine h { s with heap := h' } ⟨I.ok, I.os, I.bare, ⟨fun b o e n hb hx => ?_, fun b o e n hb hx => ?_, I.base.free, fun b o e hx => ?_, I.base.tups, I.base.frzs, I.base.tbls⟩, ⟨m, hn.sameBut hs (Ne.symm (cne x c hc)), fun j y v' e1 e2 e3 => ?_⟩, fun y c' e => ?_, I.free, I.freeC, fun p hp => ?_, tracked ⟨oc, hoc, I.freeC x c hc⟩ hs, by simpa using I.len⟩ ⟨c, hs, .inr hc⟩
    · exact (hs.2 b (Nat.ne_of_lt (Nat.lt_of_lt_of_le (Heap.lt_size e) (I.ok.cab x c hfn hc)))).trans (I.base.keep b o e n hb hx)
    · obtain ⟨sl, e1⟩ := I.base.slot b o e n hb hx
      exact ⟨sl, (hs.2 b (Nat.ne_of_lt (Nat.lt_of_lt_of_le (Heap.lt_size e) (I.ok.cab x c hfn hc)))).trans e1⟩
    · obtain ⟨o', e1⟩ := I.base.there b o e hx
      exact ⟨o', (hs.2 b (Nat.ne_of_lt (Nat.lt_of_lt_of_le (Heap.lt_size e) (I.ok.cab x c hfn hc)))).trans e1⟩
    · by_cases hj : j = i
      · subst hj
        rw [hi] at e1; cases e1
        rw [List.getElem?_set_self hiσ] at e2
        cases e2
        exact ⟨u, r, .inr ⟨.inl hk, c, hc, hc'⟩⟩
      · rw [List.getElem?_set_ne (Ne.symm hj)] at e2
        obtain ⟨u', r', q⟩ := hl j y v' e1 e2 e3
        refine ⟨u', r', ?_⟩
        rcases q with q | ⟨k, c', e, z'⟩
        · exact .inl q
        · refine .inr ⟨k, c', e, z'.sameBut hs ?_⟩
          rintro rfl
          exact hj (nodup_ix hN e1 (I.ok.inj _ _ _ e hc ▸ hi))
    · by_cases hcc : c' = c
      · subst hcc; exact ⟨_, hc'⟩
      · obtain ⟨w2, z2⟩ := I.cell y c' e
        exact ⟨w2, z2.sameBut hs hcc⟩
    · obtain ⟨e, n, ne, nf, d⟩ := I.pin p hp
      refine ⟨(hs.2 p.1 ?_).trans e, n, ne, nf, d⟩
      intro q
      rw [q, hoc] at e
      have q' : oc = p.2 := Option.some.inj e
      exact d w' (by rw [← q']; exact hocd)
theorem store_ok {M : Model} {A : Around} {E : Value → Shared → Prop} {i : Nat} {x : Str} {v : V} {u : Value} {Q : Unit → Shared → Prop} (I : Inv X pins σ H s) (hN : X.N.Nodup) (hi : X.N[i]? = some x) (hx : Loc X.env.scope x) (r : RelV v u)
    (h : ∀ s', Inv X pins (σ.set i (some v)) H s' → Q () s') (hf : X.fn x = true ∨ X.env.scope.names.lookup x = some .local := by first | exact .inl rfl | exact .inr rfl | assumption) : wpAny M A (storeName X.env x u) Q E s :=
  store_ok2 I hN hi hx r (fun s' I' _ => h s' I') hf
/-- behind a call or a block, the state as it is -/
theorem Inv.call' {s' : Shared} {ch : List Addr} (I : Inv X pins σ H s) (ho : s'.os = s.os) (u : Un (frs X.stack) ch H H' s.heap s'.heap) (hok : HOk X.prog X.w H' s'.heap) (hg : AllBare s'.gens)
    (hch : ∀ b ∈ ch, (b ∈ X.ex ∨ X.s_0.heap.objs.size ≤ b) ∧ b ≠ X.env.locals ∧ (∀ x c, X.env.cells.lookup x = some c → c ≠ b) ∧ ∀ p ∈ X.pn ++ pins, p.1 ≠ b) : Inv X pins σ H' s' := by
  obtain ⟨h', g', d', t', o'⟩ := s'
  have e : o' = s.os := ho
  subst e
  exact I.call (g' := g') (t' := t') (d' := d') u hok hg hch
end

/-- an exception: its class, its own dict's address (where it has one), the abstract heap behind it -/
abbrev XK := Value → Option Addr → Hp → Prop
abbrev St := List (Option V)
abbrev VK := V → Hp → Prop
/-- an expression's reading; a test's; an argument list's -/
abbrev TE := St → Hp → VK → Prop
abbrev TT := St → Hp → (Bool → Hp → Prop) → Prop
abbrev TA := St → Hp → (List V → Hp → Prop) → Prop
/-- what is wanted behind a statement -/
structure Ends where
  nx : St → Hp → Prop
  rt : VK
  bk : St → Hp → Prop := fun _ _ => False
  ct : St → Hp → Prop := fun _ _ => False
abbrev TS := Ends → St → Hp → Prop

def EP (X : Cx) (pins : List (Addr × Obj)) (σ : St) (Q : VK) (u : Value) (s' : Shared) : Prop := ∃ v H', Inv X pins σ H' s' ∧ RelV v u ∧ Q v H'
def TP (X : Cx) (pins : List (Addr × Obj)) (σ : St) (Q : Bool → Hp → Prop) (b : Bool) (s' : Shared) : Prop := ∃ H', Inv X pins σ H' s' ∧ Q b H'
def AP (X : Cx) (pins : List (Addr × Obj)) (σ : St) (Q : List V → Hp → Prop) (us : List Value) (s' : Shared) : Prop := ∃ vs H', Inv X pins σ H' s' ∧ Vals vs us ∧ Q vs H'
def SP (X : Cx) (pins : List (Addr × Obj)) (D : Ends) (f : Flow) (s' : Shared) : Prop :=
  match f with
  | .next => ∃ σ' H', Inv X pins σ' H' s' ∧ D.nx σ' H'
  | .brk => ∃ σ' H', Inv X pins σ' H' s' ∧ D.bk σ' H'
  | .cont => ∃ σ' H', Inv X pins σ' H' s' ∧ D.ct σ' H'
  | .ret u => ∃ v σ' H', Inv X pins σ' H' s' ∧ RelV v u ∧ D.rt v H'

def PE (X : Cx) (e : Expr) (t : TE) : Prop :=
  ∀ (pins : List (Addr × Obj)) (s : Shared) (σ : St) (H : Hp) (Q : VK), Inv X pins σ H s → t σ H Q → wpAny (model X.prog X.w) X.A (eval e X.env) (EP X pins σ Q) X.xe s
def PT (X : Cx) (e : Expr) (t : TT) : Prop :=
  ∀ (pins : List (Addr × Obj)) (s : Shared) (σ : St) (H : Hp) (Q : Bool → Hp → Prop), Inv X pins σ H s → t σ H Q → wpAny (model X.prog X.w) X.A (isTrue e X.env (eval e X.env)) (TP X pins σ Q) X.xe s
/-- a test whatever its 'whole' is (and, or) -/
def PW (X : Cx) (e : Expr) (t : TT) : Prop :=
  ∀ (whole : Sem Value) (pins : List (Addr × Obj)) (s : Shared) (σ : St) (H : Hp) (Q : Bool → Hp → Prop), Inv X pins σ H s → t σ H Q → wpAny (model X.prog X.w) X.A (isTrue e X.env whole) (TP X pins σ Q) X.xe s
theorem PW.pt {X : Cx} {e : Expr} {t : TT} (h : PW X e t) : PT X e t := h _
/-- an argument list (no star), from the left -/
def PA (X : Cx) (es : List Expr) (t : TA) : Prop :=
  ∀ (pos : Pos) (pins : List (Addr × Obj)) (s : Shared) (σ : St) (H : Hp) (Q : List V → Hp → Prop), Inv X pins σ H s → t σ H Q → wpAny (model X.prog X.w) X.A (spliced (backTo pos (starEach es X.env))) (AP X pins σ Q) X.xe s
def PS (X : Cx) (st : Stmt) (t : TS) : Prop :=
  ∀ (pins : List (Addr × Obj)) (s : Shared) (σ : St) (H : Hp) (D : Ends), Inv X pins σ H s → t D σ H → wpAny (model X.prog X.w) X.A (exec st X.env) (SP X pins D) X.xe s
def PSs (X : Cx) (st : List Stmt) (t : TS) : Prop :=
  ∀ (pins : List (Addr × Obj)) (s : Shared) (σ : St) (H : Hp) (D : Ends), Inv X pins σ H s → t D σ H → wpAny (model X.prog X.w) X.A (execs st X.env) (SP X pins D) X.xe s
/-- weaken the end -/
theorem thn {α : Type} {t : Sem α} {Q Q' : α → Shared → Prop} {M : Model} {A : Around} {E : Value → Shared → Prop} {s : Shared} (h : wpAny M A t Q E s) (hQ : ∀ a s, Q a s → Q' a s) : wpAny M A t Q' E s := wpAny_mono h hQ fun _ _ x => x
end L2

namespace L2
open PySem PySem.Spec PyProof.Rows
section
variable {X : Cx}

/-- two expressions in a row -/
theorem bin {a b : Expr} {ta tb : TE} (ha : PE X a ta) (hb : PE X b tb) {pins : List (Addr × Obj)} {s : Shared} {σ : St} {H : Hp} {R : V → V → Hp → Prop} (I : Inv X pins σ H s) (h : ta σ H fun x H1 => tb σ H1 fun y H2 => R x y H2)
    {α : Type} {Q : α → Shared → Prop} {f : Value → Value → Sem α}
    (hf : ∀ v u s2 x y H2, Inv X pins σ H2 s2 → RelV x v → RelV y u → R x y H2 → wpAny (model X.prog X.w) X.A (f v u) Q X.xe s2) :
    wpAny (model X.prog X.w) X.A (eval a X.env) (fun v s₁ => wpAny (model X.prog X.w) X.A (eval b X.env) (fun u s₂ => wpAny (model X.prog X.w) X.A (f v u) Q X.xe s₂) X.xe s₁) X.xe s := by
  refine thn (ha pins s σ H _ I h) fun v s1 ⟨x, H1, I1, r1, q1⟩ => ?_
  refine thn (hb pins s1 σ H1 _ I1 q1) fun u s2 ⟨y, H2, I2, r2, q2⟩ => ?_
  exact hf v u s2 x y H2 I2 r1 r2 q2

def tVar (i : Nat) : TE := fun σ H Q => ∃ v, σ[i]? = some (some v) ∧ Q v H
def tC (v : V) : TE := fun _ H Q => Q v H
theorem pe_var {i : Nat} {x : Str} {pos : Pos} (hN : X.N[i]? = some x) (hv : Vis X.env.scope x) (hd : (x == ("__debug__" : Str)) = false := by decide) (hcd : (x == ("__classdict__" : Str)) = false := by decide) : PE X (.Name x pos) (tVar i) := by
  intro pins s σ H Q I h
  obtain ⟨v, e, h⟩ := h
  obtain ⟨m, hn, hl⟩ := I.loc
  obtain ⟨u, r, l⟩ := hl i x v hN e hv
  have fin : EP X pins σ Q u s := ⟨v, H, I, r, h⟩
  rcases l with ⟨hk, hm⟩ | ⟨hk, c, hc, hcell⟩
  · exact wpAny_Name (wpAny_loadName_local I.ok.kind hk hn hm fin) hd
  · rcases hk with hk | hk
    · exact wpAny_Name (wpAny_loadName_cell I.ok.kind hk hc hcell fin) hd
    · exact wpAny_Name (wpAny_loadName_free I.ok.kind hk hc hcell fin hcd) hd
theorem pe_int {i j pos} : PE X (.Constant (.int i) j pos) (tC (.int i)) := fun _ _ _ H _ I h => wpAny_Constant_int ⟨.int i, H, I.tok _, ⟨_, rfl⟩, h⟩
theorem pe_bl {b j pos} : PE X (.Constant (.bool b) j pos) (tC (.bl b)) := fun _ _ _ H _ I h => Constant_bool ⟨.bl b, H, I, rfl, h⟩
theorem pe_non {j pos} : PE X (.Constant .none j pos) (tC .non) := fun _ _ _ H _ I h => Constant_none ⟨.non, H, I, rfl, h⟩
/-- a global name of the def -/
def Gl (X : Cx) (x : Str) : Prop := X.env.kindOf x = some .globalImplicit
theorem ld_glob {E : Value → Shared → Prop} {pins : List (Addr × Obj)} {s : Shared} {σ : St} {H : Hp} {x : Str} {u : Value} {pos : Pos} {Q : Value → Shared → Prop} (I : Inv X pins σ H s) (hg : Gl X x) (hm : X.mg x = some u) (h : Q u s)
    (hd : (x == ("__debug__" : Str)) = false := by decide) : wpAny (model X.prog X.w) X.A (eval (.Name x pos) X.env) Q E s :=
  Calls.Name_function_global I.ok.kind hg (Calls.loadGlobal_global (by rw [I.ok.glob]; exact I.mod.glob.keeps I.bk) hm h) hd
theorem ld_blt {E : Value → Shared → Prop} {pins : List (Addr × Obj)} {s : Shared} {σ : St} {H : Hp} {x : Str} {u : Value} {pos : Pos} {Q : Value → Shared → Prop} (I : Inv X pins σ H s) (hg : Gl X x) (hm : X.mg x = none) (hv : bootBuiltins x = some u) (h : Q u s)
    (hn : x ≠ "__name__" := by decide) (hd : (x == ("__debug__" : Str)) = false := by decide) : wpAny (model X.prog X.w) X.A (eval (.Name x pos) X.env) Q E s := by
  obtain ⟨mb, h1, h2⟩ := I.mod.blt
  exact Calls.Name_function_global I.ok.kind hg (Calls.loadGlobal_builtin (by rw [I.ok.glob]; exact I.mod.glob.keeps I.bk) hm (by rw [I.ok.blt]; exact h1.keeps I.bk) ((h2 x hn).trans hv) h) hd
/-- a module's constant, a class, a function, as a value -/
theorem pe_glob {x : Str} {v : V} {u : Value} {pos : Pos} (hg : Gl X x) (hm : X.mg x = some u) (r : RelV v u) (hd : (x == ("__debug__" : Str)) = false := by decide) : PE X (.Name x pos) (tC v) :=
  fun _ _ _ H _ I h => ld_glob I hg hm ⟨v, H, I, r, h⟩ hd
variable {a b : Expr} {ta tb : TE} {pos : Pos}
def PC (X : Cx) (op : CmpOp) (a b : Expr) (t : TE) : Prop :=
  ∀ (pins : List (Addr × Obj)) (s : Shared) (σ : St) (H : Hp) (Q : VK), Inv X pins σ H s → t σ H Q →
    wpAny (model X.prog X.w) X.A (eval a X.env) (fun v s₁ => wpAny (model X.prog X.w) X.A (eval b X.env) (fun u s₂ => wpAny (model X.prog X.w) X.A (compareOp op v u) (EP X pins σ Q) X.xe s₂) X.xe s₁) X.xe s
theorem nobehind (b : Expr) {op : CmpOp} (h : op ≠ .In) (h2 : op ≠ .NotIn) : behindInMarks op b = false := by
  have e1 : (op == CmpOp.In) = false := by cases op <;> first | rfl | exact absurd rfl h
  have e2 : (op == CmpOp.NotIn) = false := by cases op <;> first | rfl | exact absurd rfl h2
  cases b <;> simp [behindInMarks, e1, e2]
/-- is None -/
def tIsN (ta : TE) : TE := fun σ H Q => ta σ H fun x H1 => Q (.bl (decide (x = .non))) H1
theorem RelV.none_iff {x : V} {v : Value} (r : RelV x v) : (v == Value.none) = decide (x = .non) := by
  cases x with
  | non => cases r; rfl
  | bl _ => cases r; rfl
  | int _ => obtain ⟨t, rfl⟩ := r; rfl
  | str _ => obtain ⟨t, rfl⟩ := r; rfl
  | byt _ => obtain ⟨t, rfl⟩ := r; rfl
  | flt _ => obtain ⟨t, rfl⟩ := r; rfl
  | ref _ => cases r; rfl
  | ty _ => cases r; rfl
theorem pc_isN {j pos'} (ha : PE X a ta) : PC X .Is a (.Constant .none j pos') (tIsN ta) := by
  intro pins s σ H Q I h
  refine thn (ha pins s σ H _ I h) fun v s1 ⟨x, H1, I1, r1, q1⟩ => ?_
  exact Constant_none (is_none_gen ⟨.bl _, H1, I1, by rw [r1.none_iff]; rfl, q1⟩)
/-- a comparison as a value, as a test -/
def tB (t : TE) : TT := fun σ H Q => t σ H fun x H1 => ∃ c, x = .bl c ∧ Q c H1
theorem pt_cmp {op : CmpOp} {t : TE} (h : PC X op a b t) (h1 : behindInMarks op b = false := by first | exact nobehind _ (by decide) (by decide) | rfl) : PT X (.Compare a [op] [b] pos) (tB t) := by
  intro pins s σ H Q I hw
  refine wpAny_isTrue_Compare1 (thn (h pins s σ H _ I hw) fun v s1 h1 => thn h1 fun u s2 h2 => thn h2 fun c s3 ⟨x, H1, I1, r1, q1⟩ => ?_) h1
  obtain ⟨d, rfl, q⟩ := q1
  cases r1
  exact wpAny_truthy_bool ⟨H1, I1, q⟩
/-- an expression whose value is a bool, as a test -/
theorem pt_val {e : Expr} {t : TE} (h : PE X e t) (he : ∀ whole, isTrue e X.env whole = (do let v ← whole; standAt e.pos; holding [v] (truthy v)) := by intro _; rfl) : PT X e (tB t) := by
  intro pins s σ H Q I hw
  refine isTrue_plain (thn (h pins s σ H _ I hw) fun v s1 ⟨x, H1, I1, r1, q1⟩ => ?_) (he _)
  obtain ⟨d, rfl, q⟩ := q1
  cases r1
  exact wpAny_truthy_bool ⟨H1, I1, q⟩

variable {tA tB' : TT} {rest : List Expr}
def tAnd (t u : TT) : TT := fun σ H Q => t σ H fun c H1 => if c = true then u σ H1 Q else Q false H1
def tOr (t u : TT) : TT := fun σ H Q => t σ H fun c H1 => if c = true then Q true H1 else u σ H1 Q
def tNot (t : TT) : TT := fun σ H Q => t σ H fun c H1 => Q (!c) H1
theorem pw_and1 (ha : PT X a tA) : PW X (.BoolOp .And [a] pos) tA := by
  intro wh pins s σ H Q I h
  refine isTrue_and (thn (ha pins s σ H Q I h) fun c s1 e => ?_)
  cases c with
  | true => exact isTrue_and_nil e
  | false => exact e
theorem pw_or1 (ha : PT X a tA) : PW X (.BoolOp .Or [a] pos) tA := by
  intro wh pins s σ H Q I h
  refine isTrue_or (thn (ha pins s σ H Q I h) fun c s1 e => ?_)
  cases c with
  | false => exact isTrue_or_nil e
  | true => exact e
theorem pw_and (ha : PT X a tA) (hb : PW X (.BoolOp .And (b :: rest) pos) tB') : PW X (.BoolOp .And (a :: b :: rest) pos) (tAnd tA tB') := by
  intro wh pins s σ H Q I h
  refine isTrue_and (thn (ha pins s σ H _ I h) fun c s1 ⟨H1, I1, q1⟩ => ?_)
  cases c with
  | true => exact hb wh pins s1 σ H1 Q I1 q1
  | false => exact ⟨H1, I1, q1⟩
theorem pw_or (ha : PT X a tA) (hb : PW X (.BoolOp .Or (b :: rest) pos) tB') : PW X (.BoolOp .Or (a :: b :: rest) pos) (tOr tA tB') := by
  intro wh pins s σ H Q I h
  refine isTrue_or (thn (ha pins s σ H _ I h) fun c s1 ⟨H1, I1, q1⟩ => ?_)
  cases c with
  | true => exact ⟨H1, I1, q1⟩
  | false => exact hb wh pins s1 σ H1 Q I1 q1
theorem pt_not (ha : PT X a tA) : PT X (.UnaryOp .Not a pos) (tNot tA) := by
  intro pins s σ H Q I h
  exact isTrue_not (ha pins s σ H (fun c H1 => Q (!c) H1) I h)
/-- .. as values (bools) -/
def tAndV (ta tb : TE) : TE := fun σ H Q => ta σ H fun x H1 => ∃ c, x = .bl c ∧ if c = true then tb σ H1 Q else Q (.bl false) H1
def tNotV (ta : TE) : TE := fun σ H Q => ta σ H fun x H1 => ∃ c, x = .bl c ∧ Q (.bl (!c)) H1
theorem pe_one {op} {t : TE} (h : PE X a t) : PE X (.BoolOp op [a] pos) t := fun pins s σ H Q I hw => BoolOp_one (h pins s σ H Q I hw)
theorem pe_and (ha : PE X a ta) (hb : PE X (.BoolOp .And (b :: rest) pos) tb) : PE X (.BoolOp .And (a :: b :: rest) pos) (tAndV ta tb) := by
  intro pins s σ H Q I h
  refine BoolOp_and (thn (ha pins s σ H _ I h) fun v s1 ⟨x, H1, I1, r1, q1⟩ => ?_)
  obtain ⟨c, rfl, q1⟩ := q1
  cases r1
  refine wpAny_truthy_bool ?_
  cases c with
  | true => exact hb pins s1 σ H1 Q I1 q1
  | false => exact ⟨.bl false, H1, I1, rfl, q1⟩
theorem pe_not (ha : PE X a ta) : PE X (.UnaryOp .Not a pos) (tNotV ta) := by
  intro pins s σ H Q I h
  refine UnaryOp_ (thn (ha pins s σ H _ I h) fun v s1 ⟨x, H1, I1, r1, q1⟩ => ?_)
  obtain ⟨c, rfl, q1⟩ := q1
  cases r1
  exact not_of (wpAny_truthy_bool ⟨.bl (!c), H1, I1, rfl, q1⟩)
/-- a if t else b -/
def tIf (t : TT) (ta tb : TE) : TE := fun σ H Q => t σ H fun c H1 => if c = true then ta σ H1 Q else tb σ H1 Q
theorem pe_ifExp {c : Expr} (hc : PT X c tA) (ha : PE X a ta) (hb : PE X b tb) : PE X (.IfExp c a b pos) (tIf tA ta tb) := by
  intro pins s σ H Q I h
  refine wpAny_IfExp (thn (hc pins s σ H _ I h) fun d s1 ⟨H1, I1, q1⟩ => ?_)
  cases d with
  | true => exact ha pins s1 σ H1 Q I1 q1
  | false => exact hb pins s1 σ H1 Q I1 q1
end
end L2

namespace L2
open PySem PySem.Spec PyProof.Rows

def SqL (K : PySem.W.Frag) (H : Hp) (a : Addr) (xs : List V) : Prop :=
  Rd H a (.lst xs) ∨
    ∃ (o : Obj) (its : Array Value) (n : Nat), K.lookup a = some o ∧ o.cls = .type "list" ∧ o.dict = none ∧ o.data = .seq its n ∧ its.size ≤ sizeLine ∧ Vals xs its.toList
def SqT (K : PySem.W.Frag) (H : Hp) (a : Addr) (xs : List V) : Prop :=
  Rd H a (.tup xs) ∨
    ∃ (o : Obj) (its : Array Value) (n : Nat), K.lookup a = some o ∧ o.cls = .type "tuple" ∧ o.data = .seq its n ∧ its.size ≤ sizeLine ∧ Vals xs its.toList
def absV : Value → Option V
  | .none => some .non
  | .bool b => some (.bl b)
  | .int i _ => some (.int i)
  | .str x _ => some (.str x)
  | .bytes b _ => some (.byt b)
  | .float b _ => some (.flt b)
  | .ref a => some (.ref a)
  | .type n => some (.ty n)
  | _ => none
theorem RelV.abs {x : V} {u : Value} (r : RelV x u) : absV u = some x := by
  cases x with
  | non => cases r; rfl
  | bl _ => cases r; rfl
  | int _ => obtain ⟨t, rfl⟩ := r; rfl
  | str _ => obtain ⟨t, rfl⟩ := r; rfl
  | byt _ => obtain ⟨t, rfl⟩ := r; rfl
  | flt _ => obtain ⟨t, rfl⟩ := r; rfl
  | ref _ => cases r; rfl
  | ty _ => cases r; rfl
theorem RelV.inj {x y : V} {u : Value} (r : RelV x u) (q : RelV y u) : x = y := Option.some.inj (r.abs.symm.trans q.abs)
theorem Vals.inj : ∀ {xs ys : List V} {us : List Value}, Vals xs us → Vals ys us → xs = ys
  | _, _, _, .nil, .nil => rfl
  | _, _, _, .cons r t, .cons r' t' => by rw [r.inj r', Vals.inj t t']
section
variable {X : Cx} {pins : List (Addr × Obj)} {σ : St} {H : Hp} {s : Shared} {a : Addr} {xs ys : List V}
theorem SqL.of {K : PySem.W.Frag} (h : H a = some (.lst xs)) : SqL K H a xs := .inl (.inl h)
theorem SqT.of {K : PySem.W.Frag} (h : H a = some (.tup xs)) : SqT K H a xs := .inl (.inl h)
theorem Inv.list (I : Inv X pins σ H s) (h : SqL X.K H a xs) : ∃ its : List Value, Vals xs its ∧ PlainL s.heap a its.toArray ∧ xs.length ≤ sizeLine := by
  rcases h with h | ⟨o, its, n, hk, hc, hd, hs, hz, r⟩
  · obtain ⟨z, its, n, r, e⟩ := h.ok I.hok
    exact ⟨its, r, ⟨_, n, e, rfl, rfl, rfl⟩, z⟩
  · refine ⟨its.toList, r, ⟨o, n, I.kIn a o hk, hc, hd, by simpa using hs⟩, ?_⟩
    have e := r.length
    simp only [Array.length_toList] at e
    omega
theorem Inv.tuple (I : Inv X pins σ H s) (h : SqT X.K H a xs) : ∃ its : List Value, Vals xs its ∧ IsTup s.heap a its.toArray ∧ xs.length ≤ sizeLine := by
  rcases h with h | ⟨o, its, n, hk, hc, hs, hz, r⟩
  · obtain ⟨z, its, r, p⟩ := h.ok I.hok
    exact ⟨its, r, p, z⟩
  · refine ⟨its.toList, r, ⟨o, I.kIn a o hk, hc, n, by simpa using hs⟩, ?_⟩
    have e := r.length
    simp only [Array.length_toList] at e
    omega
theorem Inv.list_inj (I : Inv X pins σ H s) (h : SqL X.K H a xs) (h' : SqL X.K H a ys) : xs = ys := by
  obtain ⟨its, r, ⟨o, n, e, _, _, d⟩, _⟩ := I.list h
  obtain ⟨its', r', ⟨o', n', e', _, _, d'⟩, _⟩ := I.list h'
  rw [e] at e'; cases e'
  rw [d] at d'
  injection d' with d1 _
  have : its = its' := by simpa using congrArg Array.toList d1
  subst this
  exact r.inj r'
end

abbrev Cx.wish (X : Cx) (E : Value → Shared → Prop) : Cx := { X with xe := E }
/-- no exception leaves -/
abbrev Cx.nox (X : Cx) : Cx := X.wish fun _ _ => False
theorem Cx.Ok.wish {X : Cx} (ok : X.Ok) (E : Value → Shared → Prop) : (X.wish E).Ok :=
  ⟨ok.mod, ok.kind, ok.glob, ok.blt, ok.above, ok.inj, ok.has, ok.cab, ok.hd, ok.frames, ok.stk, ok.exf, ok.bs, ok.bsz, ok.noex, ok.exfs, ok.funs, ok.frf⟩
theorem Cx.Ok.unwish {X : Cx} {E : Value → Shared → Prop} (ok : (X.wish E).Ok) : X.Ok :=
  ⟨ok.mod, ok.kind, ok.glob, ok.blt, ok.above, ok.inj, ok.has, ok.cab, ok.hd, ok.frames, ok.stk, ok.exf, ok.bs, ok.bsz, ok.noex, ok.exfs, ok.funs, ok.frf⟩
section
variable {X : Cx} {pins : List (Addr × Obj)} {σ : St} {H : Hp} {s : Shared} {E : Value → Shared → Prop}
theorem Inv.wish (I : Inv X pins σ H s) (E : Value → Shared → Prop) : Inv (X.wish E) pins σ H s := ⟨I.ok.wish E, I.os, I.bare, I.base, I.loc, I.cell, I.free, I.freeC, I.pin, I.hok, I.len⟩
theorem Inv.unwish (I : Inv (X.wish E) pins σ H s) : Inv X pins σ H s := ⟨I.ok.unwish, I.os, I.bare, I.base, I.loc, I.cell, I.free, I.freeC, I.pin, I.hok, I.len⟩
theorem SP.unwish {D : Ends} {f : Flow} {s' : Shared} (h : SP (X.wish E) pins D f s') : SP X pins D f s' := by
  cases f with
  | next => obtain ⟨σ', H', I, q⟩ := h; exact ⟨σ', H', I.unwish, q⟩
  | brk => obtain ⟨σ', H', I, q⟩ := h; exact ⟨σ', H', I.unwish, q⟩
  | cont => obtain ⟨σ', H', I, q⟩ := h; exact ⟨σ', H', I.unwish, q⟩
  | ret u => obtain ⟨v, σ', H', I, r, q⟩ := h; exact ⟨v, σ', H', I.unwish, r, q⟩
theorem PSs.nox {st : List Stmt} {t : TS} (h : PSs X.nox st t) : PSs X st t := fun pins s σ H D I hw =>
  wpAny_mono (h pins s σ H D (I.wish _) hw) (fun _ _ q => q.unwish) fun _ _ z => False.elim z
end

section
variable {X : Cx} {st : Stmt} {rest : List Stmt} {t u : TS} {e : Expr} {te : TE} {pos : Pos}
def tNext : TS := fun D σ H => D.nx σ H
def tSeq (t u : TS) : TS := fun D σ H => t { D with nx := u D } σ H
theorem pss_nil : PSs X [] tNext := fun _ _ σ H _ I h => wpAny_execs_nil ⟨σ, H, I, h⟩
theorem pss_cons (h1 : PS X st t) (h2 : PSs X rest u) : PSs X (st :: rest) (tSeq t u) := by
  intro pins s σ H D I h
  refine wpAny_execs_cons (thn (h1 pins s σ H { D with nx := u D } I h) fun f s1 q => ?_)
  cases f with
  | next =>
    obtain ⟨σ', H', I', q⟩ := q
    exact h2 pins s1 σ' H' D I' q
  | ret v => exact q
  | brk => exact q
  | cont => exact q
theorem pss_one (h1 : PS X st t) : PSs X [st] t := by
  intro pins s σ H D I h
  refine wpAny_execs_cons (thn (h1 pins s σ H D I h) fun f s1 q => ?_)
  cases f with
  | next => exact wpAny_execs_nil q
  | ret v => exact q
  | brk => exact q
  | cont => exact q
/-- in a def's body nothing is shown -/
theorem Inv.quiet {pins : List (Addr × Obj)} {σ : St} {H : Hp} {s : Shared} (I : Inv X pins σ H s) : interactive X.env = false := by simp [interactive, I.ok.kind]
/-- an expression whose value is dropped -/
def tDrop (te : TE) : TS := fun D σ H => te σ H fun _ H1 => D.nx σ H1
theorem ps_expr (he : PE X e te) (hs : swapsWith e none pos.line X.env = pure false := by rfl) : PS X (.Expr e pos) (tDrop te) := by
  intro pins s σ H D I h
  exact wpAny_Expr_any (thn (he pins s σ H _ I h) fun v s1 ⟨x, H1, I1, r1, q1⟩ => ⟨σ, H1, I1, q1⟩) I.quiet hs
def tRet (te : TE) : TS := fun D σ H => te σ H D.rt
theorem ps_ret (he : PE X e te) : PS X (.Return (some e) pos) (tRet te) := by
  intro pins s σ H D I h
  exact wpAny_Return_some (thn (he pins s σ H _ I h) fun v s1 ⟨x, H1, I1, r1, q1⟩ => ⟨x, σ, H1, I1, r1, q1⟩)
def tIfS (c : TT) (t u : TS) : TS := fun D σ H => c σ H fun b H1 => if b = true then t D σ H1 else u D σ H1
theorem ps_if {c : Expr} {a b : List Stmt} {tc : TT} (hc : PT X c tc) (ha : PSs X a t) (hb : PSs X b u) : PS X (.If c a b pos) (tIfS tc t u) := by
  intro pins s σ H D I h
  refine wpAny_If (thn (hc pins s σ H _ I h) fun d s1 ⟨H1, I1, q1⟩ => ?_)
  cases d with
  | true => exact ha pins s1 σ H1 D I1 q1
  | false => exact hb pins s1 σ H1 D I1 q1
end

abbrev TG := V → St → Hp → (St → Hp → Prop) → Prop
abbrev TGs := List V → St → Hp → (St → Hp → Prop) → Prop
def PG (X : Cx) (target : Expr) (t : TG) : Prop :=
  ∀ (pins : List (Addr × Obj)) (s : Shared) (σ : St) (H : Hp) (v : V) (u : Value) (Q : St → Hp → Prop), Inv X pins σ H s → RelV v u → t v σ H Q →
    wpAny (model X.prog X.w) X.A (assign target X.env u) (fun _ s' => ∃ σ' H', Inv X pins σ' H' s' ∧ Q σ' H') X.xe s
/-- several targets, one after another -/
def PGs (X : Cx) (ts : List Expr) (t : TGs) : Prop :=
  ∀ (pins : List (Addr × Obj)) (s : Shared) (σ : St) (H : Hp) (vs : List V) (us : List Value) (Q : St → Hp → Prop), Inv X pins σ H s → Vals vs us → t vs σ H Q →
    wpAny (model X.prog X.w) X.A (assignInOrder ((assignEach ts X.env).map (·.2)) us) (fun _ s' => ∃ σ' H', Inv X pins σ' H' s' ∧ Q σ' H') X.xe s
/-- a op= b, by values -/
abbrev TIp := V → V → Hp → VK → Prop
def PIp (X : Cx) (op : Operator) (t : TIp) : Prop :=
  ∀ (pins : List (Addr × Obj)) (s : Shared) (σ : St) (H : Hp) (x y : V) (v u : Value) (Q : VK), Inv X pins σ H s → RelV x v → RelV y u → t x y H Q →
    wpAny (model X.prog X.w) X.A (inplaceOp op v u) (EP X pins σ Q) X.xe s
section
variable {X : Cx} {pos : Pos}
def gName (i : Nat) : TG := fun v σ H Q => Q (σ.set i (some v)) H
theorem pg_name {i : Nat} {x : Str} (hN : X.N.Nodup) (hi : X.N[i]? = some x) (hx : Loc X.env.scope x) (hf : X.fn x = true ∨ X.env.scope.names.lookup x = some .local := by first | exact .inl rfl | exact .inr rfl | assumption) : PG X (.Name x pos) (gName i) := by
  intro pins s σ H v u Q I r h
  exact wpAny_assign_Name (store_ok I hN hi hx r (fun s' I' => ⟨_, H, I', h⟩) hf)
def gNil : TGs := fun vs σ H Q => vs = [] ∧ Q σ H
def gCons (t : TG) (u : TGs) : TGs := fun vs σ H Q => ∃ v r, vs = v :: r ∧ t v σ H fun σ' H' => u r σ' H' Q
theorem pgs_nil : PGs X [] gNil := by
  intro pins s σ H vs us Q I r h
  obtain ⟨e, h⟩ := h
  subst e
  cases r
  exact assignInOrder_nil ⟨σ, H, I, h⟩
theorem pgs_cons {e : Expr} {es : List Expr} {t : TG} {u : TGs} (h1 : PG X e t) (h2 : PGs X es u)
    (hs : (assignEach (e :: es) X.env).map (·.2) = assign e X.env :: (assignEach es X.env).map (·.2) := by rfl) : PGs X (e :: es) (gCons t u) := by
  intro pins s σ H vs us Q I r h
  obtain ⟨v, vr, e1, h⟩ := h
  subst e1
  cases r with
  | cons r rr =>
    rw [hs]
    refine assignInOrder_cons (thn (h1 pins s σ H _ _ _ I r h) fun _ s1 ⟨σ1, H1, I1, q1⟩ => ?_)
    exact h2 pins s1 σ1 H1 _ _ Q I1 rr q1
/-- (a, b, ..) = a tuple of that length -/
def gTup (K : PySem.W.Frag) (n : Nat) (t : TGs) : TG := fun v σ H Q => ∃ a xs, v = .ref a ∧ SqT K H a xs ∧ xs.length = n ∧ t xs σ H Q
theorem pg_tup {es : List Expr} {k : Nat} {t : TGs} {n : Nat} (hc : X.calm = true) (h : PGs X es t)
    (hn : (assignEach es X.env).length = n := by rfl) (hst : (assignEach es X.env).findIdx? (·.1) = none := by rfl) : PG X (.Tuple es k pos) (gTup X.K n t) := by
  intro pins s σ H v u Q I r hw
  obtain ⟨a, xs, e1, hq, hl, hw⟩ := hw
  subst e1
  cases r
  obtain ⟨its, rv, ht, hz⟩ := I.tuple hq
  refine assign_Tuple_tuple (I.ok.hd hc) ht (by simp [hn, ← hl, rv.length]) hst fun h' hx => ?_
  have I1 : Inv X pins σ H { s with heap := h' } := I.kept (t' := s.toks) fun b o e => hx b o (Nat.ne_of_lt (Heap.lt_size e)) e
  exact h pins _ σ H xs _ Q I1 (by simpa using rv) hw
/-- target = value -/
def tAsg (te : TE) (g : TG) : TS := fun D σ H => te σ H fun x H1 => g x σ H1 D.nx
/-- name = value -/
theorem ps_set {i : Nat} {x : Str} {e : Expr} {te : TE} {pos' : Pos} (hN : X.N.Nodup) (hi : X.N[i]? = some x) (hx : Loc X.env.scope x) (he : PE X e te) (hs : swapsWith e (some (.Name x pos')) pos.line X.env = pure false := by rfl) (hf : X.fn x = true ∨ X.env.scope.names.lookup x = some .local := by first | exact .inl rfl | exact .inr rfl | assumption) :
    PS X (.Assign [.Name x pos'] e pos) (tAsg te (gName i)) := by
  intro pins s σ H D I h
  refine wpAny_Assign_Name (thn (he pins s σ H _ I h) fun v s1 ⟨y, H1, I1, r1, q1⟩ => ?_) hs
  exact store_ok I1 hN hi hx r1 (fun s2 I2 => ⟨_, H1, I2, q1⟩) hf
/-- name op= e -/
def tAug (i : Nat) (te : TE) (ti : TIp) : TS := fun D σ H => ∃ x, σ[i]? = some (some x) ∧ te σ H fun y H1 => ti x y H1 fun z H2 => D.nx (σ.set i (some z)) H2
theorem ps_aug {i : Nat} {x : Str} {e : Expr} {te : TE} {op : Operator} {ti : TIp} {pos' : Pos} (hN : X.N.Nodup) (hi : X.N[i]? = some x) (hx : Loc X.env.scope x) (he : PE X e te) (ho : PIp X op ti) (hf : X.fn x = true ∨ X.env.scope.names.lookup x = some .local := by first | exact .inl rfl | exact .inr rfl | assumption) :
    PS X (.AugAssign (.Name x pos') op e pos) (tAug i te ti) := by
  intro pins s σ H D I h
  obtain ⟨v, e1, h⟩ := h
  obtain ⟨m, hn, hl⟩ := I.loc
  have vis : Vis X.env.scope x := by rcases hx with k | k; exact .inl k; exact .inr (.inl k)
  obtain ⟨u, r, l⟩ := hl i x v hi e1 vis
  refine wpAny_AugAssign_Name ?_
  have go : wpAny (model X.prog X.w) X.A (eval e X.env) (fun w s₂ => wpAny (model X.prog X.w) X.A (inplaceOp op u w) (fun r s₃ => wpAny (model X.prog X.w) X.A (storeName X.env x r) (fun _ => SP X pins D .next) X.xe s₃) X.xe s₂) X.xe s := by
    refine thn (he pins s σ H _ I h) fun w s1 ⟨y, H1, I1, r1, q1⟩ => ?_
    refine thn (ho pins s1 σ H1 v y u w _ I1 r r1 q1) fun z s2 ⟨zv, H2, I2, r2, q2⟩ => ?_
    exact store_ok I2 hN hi hx r2 (fun s3 I3 => ⟨_, H2, I3, q2⟩) hf
  rcases l with ⟨hk, hm⟩ | ⟨hk, c, hc, hcell⟩
  · exact wpAny_loadName_local I.ok.kind hk hn hm go
  · rcases hk with hk | hk
    · exact wpAny_loadName_cell I.ok.kind hk hc hcell go
    · rcases hx with k | k
      · have : X.env.scope.names.lookup x = some .free := hk
        rw [k] at this; cases this
      · have : X.env.scope.names.lookup x = some .free := hk
        rw [k] at this; cases this
/-- ints -/
def ipI (f : Int → Int → Int) : TIp := fun x y H Q => ∃ i j, x = .int i ∧ y = .int j ∧ Q (.int (f i j)) H
theorem ip_add : PIp X .Add (ipI fun i j => i + j) := by
  intro pins s σ H x y v u Q I r1 r2 h
  obtain ⟨i, j, e1, e2, q⟩ := h
  subst e1; subst e2
  obtain ⟨t, rfl⟩ := r1
  obtain ⟨t', rfl⟩ := r2
  exact iadd_int ⟨.int _, H, I.tok _, ⟨_, rfl⟩, q⟩
end

section
variable {X : Cx} {pos : Pos}
/-- the invariant W with its measure -/
def tWhile (c : TT) (tb : TS) : TS := fun D σ H => ∃ W : Nat → St → Hp → Prop, (∃ m, W m σ H) ∧ ∀ m σ H, W m σ H →
  c σ H fun b H1 => if b = true then ∃ N : St → Hp → Prop, (∀ σ' H', N σ' H' → ∃ m', m' < m ∧ W m' σ' H') ∧ tb { D with nx := N, ct := N, bk := D.nx } σ H1 else D.nx σ H1
theorem ps_while {c : Expr} {body : List Stmt} {tc : TT} {tb : TS} (hp : PassesOwn (model X.prog X.w) X.A X.env X.xe) (hc : PT X c tc) (hb : PSs X body tb) : PS X (.While c body [] pos) (tWhile tc tb) := by
  intro pins s σ H D I h
  obtain ⟨W, ⟨m0, w0⟩, turn⟩ := h
  refine wpAny_While (codeAny_whileLoop (fun n s' => ∃ σ' H', Inv X pins σ' H' s' ∧ W n σ' H') ?_ m0 ⟨σ, H, I, w0⟩)
  rintro n s1 ⟨σ1, H1, I1, w1⟩
  refine wpAny_passesOwn hp (thn (hc pins s1 σ1 H1 _ I1 (turn n σ1 H1 w1)) fun b s2 ⟨H2, I2, q2⟩ => ?_)
  cases b with
  | true =>
    obtain ⟨N, hN, q2⟩ := q2
    rw [if_pos rfl]
    refine wpAny_passesOwn hp (thn (hb pins s2 σ1 H2 _ I2 q2) fun f s3 q3 => ?_)
    cases f with
    | next =>
      obtain ⟨σ3, H3, I3, n3⟩ := q3
      obtain ⟨m', hm, w3⟩ := hN σ3 H3 n3
      exact ⟨m', hm, σ3, H3, I3, w3⟩
    | cont =>
      obtain ⟨σ3, H3, I3, n3⟩ := q3
      obtain ⟨m', hm, w3⟩ := hN σ3 H3 n3
      exact ⟨m', hm, σ3, H3, I3, w3⟩
    | brk => exact q3
    | ret v => exact q3
  | false =>
    rw [if_neg Bool.false_ne_true]
    exact wpAny_execs_nil ⟨σ1, H2, I2, q2⟩
end

/-- at turn i: it yields x (the heap may grow), or it stops -/
structure It where
  go : Nat → Hp → Prop
  yld : Nat → Hp → V → Hp → Prop
  stop : Nat → Hp → Prop
/-- the iterator's own objects may turn: they are not the frame's, not pinned, younger than the entry (or a comprehension's own) -/
def FpOk (X : Cx) (pins : List (Addr × Obj)) (H : Hp) (b : Addr) : Prop :=
  H b = none ∧ b ≠ X.env.locals ∧ b ∉ X.fs ∧ (b ∈ X.ex ∨ X.s_0.heap.objs.size ≤ b) ∧ (∀ x c, X.env.cells.lookup x = some c → c ≠ b) ∧ ∀ p ∈ X.pn ++ pins, p.1 ≠ b
theorem Inv.fpOk {X : Cx} {pins : List (Addr × Obj)} {σ : St} {H H' : Hp} {s : Shared} {b : Addr} (I : Inv X pins σ H s) (hb : s.heap.objs.size ≤ b) (hn : H' b = none) : FpOk X pins H' b := by
  refine ⟨hn, Nat.ne_of_gt (Nat.lt_of_lt_of_le I.lt hb), I.nofs hb, .inr (Nat.le_trans I.sz hb), fun x c e z => ?_, fun p hp z => ?_⟩
  · obtain ⟨v, q⟩ := I.cell x c e
    exact absurd (Nat.lt_of_lt_of_le q.lt (by rw [z]; exact hb)) (Nat.lt_irrefl _)
  · exact absurd (Nat.lt_of_lt_of_le (Heap.lt_size (I.pin p hp).1) (by rw [z]; exact hb)) (Nat.lt_irrefl _)
structure Turn (P : Program) (w : World) (K : PySem.W.Frag) (tg : Expr) (J : It) (fp : List Addr) (it : Addr) (tn : Nat → Heap → Prop) : Prop where
  mem : it ∈ fp
  obj : ∀ i h, tn i h → ∀ b ∈ fp, ∃ o, h.get? b = some o ∧ ∀ v, o.data ≠ .cell v
  keep : ∀ i h h', tn i h → (∀ b ∈ fp, ∀ o, h.get? b = some o → h'.get? b = some o) → tn i h'
  item : ∀ (X : Cx), X.prog = P → X.w = w → X.K = K → X.calm = true → ∀ (i : Nat) (pins : List (Addr × Obj)) (s : Shared) (σ : St) (H : Hp) (E : Value → Shared → Prop), Inv X pins σ H s → (∀ b ∈ fp, FpOk X pins H b) → tn i s.heap → J.go i H →
    wpAny (model P w) X.A (pyNext (.ref it)) (fun r s1 => ∃ u, r = some u ∧
      wpAny (model P w) X.A (letOwnedTupleGo tg (.ref it) u) (fun _ s2 => ∃ x H', Inv X pins σ H' s2 ∧ RelV x u ∧ J.yld i H x H' ∧ tn (i + 1) s2.heap ∧ ∀ b ∈ fp, H' b = none) E s1) E s
  done : ∀ (X : Cx), X.prog = P → X.w = w → X.K = K → X.calm = true → ∀ (i : Nat) (pins : List (Addr × Obj)) (s : Shared) (σ : St) (H : Hp) (E : Value → Shared → Prop), Inv X pins σ H s → (∀ b ∈ fp, FpOk X pins H b) → tn i s.heap → J.stop i H →
    wpAny (model P w) X.A (pyNext (.ref it)) (fun r s1 => r = none ∧ Inv X pins σ H s1) E s
  self : ∀ (A : Around) (i : Nat) (s : Shared) (Q : Value → Shared → Prop) (E : Value → Shared → Prop), tn i s.heap → Q (.ref it) s → wpAny (model P w) A (pyIter (.ref it)) Q E s
abbrev TI := St → Hp → (It → Hp → Prop) → Prop
/-- an iterator has come -/
def PIE (X : Cx) (pins : List (Addr × Obj)) (σ : St) (tg : Expr) (R : It → Hp → Prop) (itv : Value) (s2 : Shared) : Prop :=
  ∃ (it : Addr) (fp : List Addr) (tn : Nat → Heap → Prop) (J : It) (H' : Hp), itv = .ref it ∧ Inv X pins σ H' s2 ∧ Turn X.prog X.w X.K tg J fp it tn ∧ tn 0 s2.heap ∧ (∀ b ∈ fp, FpOk X pins H' b) ∧ R J H'
def PI (X : Cx) (tg iter : Expr) (wi : TI) : Prop :=
  ∀ (pins : List (Addr × Obj)) (s : Shared) (σ : St) (H : Hp) (R : It → Hp → Prop), Inv X pins σ H s → wi σ H R →
    wpAny (model X.prog X.w) X.A (eval iter X.env) (fun v s1 => wpAny (model X.prog X.w) X.A (pyIter v) (PIE X pins σ tg R) X.xe s1) X.xe s

/-- the step ahead of the store is nothing for an iterator that keeps no tuple -/
theorem go_of {M : Model} {A : Around} {E : Value → Shared → Prop} {s : Shared} {tg : Expr} {it : Addr} {u : Value} {o : Obj} {n : String} {vs : Array Value} {Q : Unit → Shared → Prop} (ho : s.heap.get? it = some o) (hc : o.cls = .type n) (hd : o.data = .fields vs)
    (hn : ["enumerate", "zip", "dict_itemiterator", "dict_reverseitemiterator", "odict_iterator", "itertools.zip_longest", "itertools.pairwise"].contains n = false) (hQ : Q () s) : wpAny M A (letOwnedTupleGo tg (.ref it) u) Q E s := by
  unfold letOwnedTupleGo
  cases tg <;> first
    | exact wpAny_pure hQ
    | (cases u <;> first
        | exact wpAny_pure hQ
        | (refine wpAny_bind (wpAny_load ho ?_)
           rw [hc, hd]
           show wpAny M A (if (["enumerate", "zip", "dict_itemiterator", "dict_reverseitemiterator", "odict_iterator", "itertools.zip_longest", "itertools.pairwise"].contains n && vs[0]? == some (rawInt _)) = true then _ else _) Q E s
           rw [if_neg (by intro h; rw [hn, Bool.false_and] at h; cases h)]
           exact wpAny_pure hQ))

/-- the list at a, as it stands at each turn (a loop may append to it) -/
def Itl (K : PySem.W.Frag) (a : Addr) : It :=
  ⟨fun i H => ∃ xs x, SqL K H a xs ∧ xs[i]? = some x, fun i H x H' => H' = H ∧ ∀ xs, SqL K H a xs → xs[i]? = some x, fun i H => ∃ xs, SqL K H a xs ∧ xs.length ≤ i⟩
theorem turn_list {P : Program} {w : World} {K : PySem.W.Frag} {tg : Expr} (a it : Addr) : Turn P w K tg (Itl K a) [it] it (fun i h => h.IsListIter it a i) where
  mem := by simp
  obj := fun i h st b hb => by
    have e : b = it := by simpa using hb
    subst e
    obtain ⟨o, e, c, d⟩ := st
    exact ⟨o, e, fun v z => by rw [d] at z; cases z⟩
  keep := fun i h h' st k => st.at fun o e => k it (by simp) o e
  item := by
    intro X hP hw hK hc i pins s σ H E I hf st hg
    subst hP hw hK
    obtain ⟨xs, x, hq, hx⟩ := hg
    obtain ⟨its, rv, p, hz⟩ := I.list hq
    obtain ⟨u, hu, ru⟩ := rv.get hx
    obtain ⟨f0, f1, f2, f3, f4, f5⟩ := hf it (by simp)
    refine wpAny_pyNext_list_item st p.isList (x := u) (by simpa using hu) fun h' st' sb => ?_
    have I1 : Inv X pins σ H { s with heap := h' } := I.turned (t' := s.toks) (fun b o hb e => (sb.2 b hb).trans e) f0 f1 f3 f4 f5
    obtain ⟨o, e, c, d⟩ := id st'
    exact ⟨u, rfl, go_of (s := { s with heap := h' }) e c d (by decide) ⟨x, H, I1, ru, ⟨rfl, fun ys hy => by rw [I.list_inj hy hq]; exact hx⟩, st', fun b hb => (hf b hb).1⟩⟩
  done := by
    intro X hP hw hK hc i pins s σ H E I hf st hg
    subst hP hw hK
    obtain ⟨xs, hq, hx⟩ := hg
    obtain ⟨its, rv, p, hz⟩ := I.list hq
    obtain ⟨f0, f1, f2, f3, f4, f5⟩ := hf it (by simp)
    have hl := rv.length
    exact wpAny_pyNext_list_end (I.ok.hd hc) st p.isList (by simp; omega) fun h' eb => ⟨rfl, I.turned (t' := s.toks) (fun b o hb e => eb b o hb e) f0 f1 f3 f4 f5⟩
  self := fun _ _ _ _ _ st h => wpAny_pyIter_listiter st h
end L2

namespace L2
open PySem PySem.Spec PyProof.Rows
section
variable {X : Cx} {tg : Expr}
def iList (K : PySem.W.Frag) (tl : TE) : TI := fun σ H R => tl σ H fun x H1 => ∃ a, x = .ref a ∧ (∃ xs, SqL K H1 a xs) ∧ R (Itl K a) H1
theorem pi_list {l : Expr} {tl : TE} (hl : PE X l tl) : PI X tg l (iList X.K tl) := by
  intro pins s σ H R I h
  refine thn (hl pins s σ H _ I h) fun v s1 ⟨x, H1, I1, r1, q1⟩ => ?_
  obtain ⟨a, e, ⟨xs, hq⟩, q⟩ := q1
  subst e
  cases r1
  obtain ⟨its, rv, p, hz⟩ := I1.list hq
  refine wpAny_pyIter_list p.isList ?_
  refine ⟨s1.heap.objs.size, [s1.heap.objs.size], _, _, H1, rfl, I1.kept (t' := s1.toks) fun b o e => Heap.get?_push_of_some _ e, turn_list a _, ⟨_, Heap.get?_push_size _ rfl, rfl, rfl⟩, fun b hb => ?_, q⟩
  have e : b = s1.heap.objs.size := by simpa using hb
  subst e
  exact I1.fpOk (Nat.le_refl _) (I1.hok.fresh (Nat.le_refl _))
/-- W: the invariant by the turn and a measure; N: what the body is to reach -/
def tFor (wi : TI) (g : TG) (tb : TS) : TS := fun D σ H => wi σ H fun J H1 => ∃ W : Nat → Nat → St → Hp → Prop, (∃ m, W 0 m σ H1) ∧ ∀ i m σ H, W i m σ H →
  (J.stop i H ∧ D.nx σ H) ∨ (J.go i H ∧ ∃ N : St → Hp → Prop, (∀ σ' H', N σ' H' → ∃ m', m' < m ∧ W (i + 1) m' σ' H') ∧ ∀ x H', J.yld i H x H' → g x σ H' fun σ2 H2 => tb { D with nx := N, ct := N, bk := D.nx } σ2 H2)
/-- the records at fp as they stand -/
def pinsAt (fp : List Addr) (h : Heap) : List (Addr × Obj) := fp.filterMap fun b => (h.get? b).map fun o => (b, o)
theorem mem_pinsAt {fp : List Addr} {h : Heap} {b : Addr} {o : Obj} (hb : b ∈ fp) (e : h.get? b = some o) : (b, o) ∈ pinsAt fp h := List.mem_filterMap.mpr ⟨b, hb, by rw [e]; rfl⟩
theorem of_pinsAt {fp : List Addr} {h : Heap} {p : Addr × Obj} (hp : p ∈ pinsAt fp h) : p.1 ∈ fp ∧ h.get? p.1 = some p.2 := by
  obtain ⟨b, hb, e⟩ := List.mem_filterMap.mp hp
  cases q : h.get? b with
  | none => rw [q] at e; cases e
  | some o =>
    rw [q] at e
    have e' : (b, o) = p := Option.some.inj e
    subst e'
    exact ⟨hb, q⟩
theorem Inv.pinned {pins : List (Addr × Obj)} {σ : St} {H : Hp} {s : Shared} {fp : List Addr} (I : Inv X pins σ H s) (hf : ∀ b ∈ fp, FpOk X pins H b) (ho : ∀ b ∈ fp, ∃ o, s.heap.get? b = some o ∧ ∀ v, o.data ≠ .cell v) : Inv X (pins ++ pinsAt fp s.heap) σ H s :=
  I.pins_of fun p hp => (List.mem_append.mp hp).elim (fun z => I.pin p (List.mem_append_right _ z)) fun z => by
    obtain ⟨hb, e⟩ := of_pinsAt z
    obtain ⟨f0, f1, f2, _⟩ := hf p.1 hb
    obtain ⟨o, e', d⟩ := ho p.1 hb
    rw [e] at e'; cases e'
    exact ⟨e, f0, f1, f2, d⟩
theorem Inv.unpinned {pins pl : List (Addr × Obj)} {σ : St} {H : Hp} {s : Shared} (I : Inv X (pins ++ pl) σ H s) : Inv X pins σ H s := I.pins_of fun p hp => I.pin p (List.mem_append_right _ (List.mem_append_left _ hp))
theorem ps_for {iter : Expr} {body : List Stmt} {wi : TI} {g : TG} {tb : TS} {pos : Pos} (hp : PassesOwn (model X.prog X.w) X.A X.env X.xe) (hc : X.calm = true) (hi : PI X tg iter wi) (hg : PG X tg g) (hb : PSs X body tb)
    (hs : ∀ x, foldedSetIterable iter X.env x = pure x := by intro _; rfl) : PS X (.For tg iter body [] pos) (tFor wi g tb) := by
  intro pins s σ H D I h
  refine wpAny_For (thn (hi pins s σ H _ I h) fun v s1 h1 => thn h1 fun itv s2 h2 => ?_) hs
  obtain ⟨it, fp, tn, J, H2, e, I2, T, st2, f2, W, ⟨m0, w0⟩, turn⟩ := h2
  subst e
  -- what stays true of the iterator's objects through the loop
  have stat : ∀ {H' : Hp}, (∀ b ∈ fp, H' b = none) → ∀ b ∈ fp, FpOk X pins H' b := fun hn b hb => ⟨hn b hb, (f2 b hb).2⟩
  refine codeAny_forLoop_any (fun n s' => ∃ i σ' H', Inv X pins σ' H' s' ∧ tn i s'.heap ∧ (∀ b ∈ fp, H' b = none) ∧ W i n σ' H') ?_ m0 ⟨0, σ, H2, I2, st2, fun b hb => (f2 b hb).1, w0⟩
  rintro n s3 ⟨i, σ3, H3, I3, st3, fr3, w3⟩
  rcases turn i n σ3 H3 w3 with ⟨stop, qn⟩ | ⟨go, N, hN, step⟩
  · refine wpAny_passesOwn hp (thn (T.done X rfl rfl rfl hc i pins s3 σ3 H3 X.xe I3 (stat fr3) st3 stop) fun r s4 ⟨hr, I4⟩ => ?_)
    subst hr
    exact wpAny_execs_nil ⟨σ3, H3, I4, qn⟩
  · refine wpAny_passesOwn hp (thn (T.item X rfl rfl rfl hc i pins s3 σ3 H3 X.xe I3 (stat fr3) st3 go) fun r s4 ⟨u, hr, h4⟩ => ?_)
    subst hr
    refine wpAny_passesOwn hp (thn h4 fun _ s5 ⟨x, H5, I5, r5, y5, st5, fr5⟩ => ?_)
    have I5' := I5.pinned (stat fr5) (T.obj _ _ st5)
    refine wpAny_passesOwn hp (thn (hg _ s5 σ3 H5 x u _ I5' r5 (step x H5 y5)) fun _ s6 ⟨σ6, H6, I6, q6⟩ => ?_)
    refine wpAny_passesOwn hp (thn (hb _ s6 σ6 H6 _ I6 q6) fun f s7 q7 => ?_)
    have again : ∀ {σ7 : St} {H7 : Hp}, Inv X (pins ++ pinsAt fp s5.heap) σ7 H7 s7 → N σ7 H7 → ∃ m, m < n ∧ ∃ i σ' H', Inv X pins σ' H' s7 ∧ tn i s7.heap ∧ (∀ b ∈ fp, H' b = none) ∧ W i m σ' H' := fun {σ7 H7} I7 n7 => by
      obtain ⟨m', hm, w7⟩ := hN σ7 H7 n7
      refine ⟨m', hm, i + 1, σ7, H7, I7.unpinned, T.keep _ _ _ st5 fun b hb o e => (I7.pin (b, o) (List.mem_append_right _ (List.mem_append_right _ (mem_pinsAt hb e)))).1, fun b hb => ?_, w7⟩
      obtain ⟨o, e, d⟩ := T.obj _ _ st5 b hb
      exact (I7.pin (b, o) (List.mem_append_right _ (List.mem_append_right _ (mem_pinsAt hb e)))).2.1
    cases f with
    | next => obtain ⟨σ7, H7, I7, n7⟩ := q7; exact again I7 n7
    | cont => obtain ⟨σ7, H7, I7, n7⟩ := q7; exact again I7 n7
    | brk => obtain ⟨σ7, H7, I7, q7⟩ := q7; exact ⟨σ7, H7, I7.unpinned, q7⟩
    | ret v => obtain ⟨x7, σ7, H7, I7, r7, q7⟩ := q7; exact ⟨x7, σ7, H7, I7.unpinned, r7, q7⟩
end

/-- over a list that the body leaves as it is -/
theorem for_list {K : PySem.W.Frag} {a : Addr} {xs : List V} {g : TG} {tb : TS} {D : Ends} {σ : St} {H : Hp} (Pv : Nat → St → Hp → Prop) (h0 : Pv 0 σ H) (hl : ∀ i σ H, i ≤ xs.length → Pv i σ H → SqL K H a xs)
    (hs : ∀ i x σ H, xs[i]? = some x → Pv i σ H → g x σ H fun σ2 H2 => tb { D with nx := Pv (i + 1), ct := Pv (i + 1), bk := D.nx } σ2 H2) (hd : ∀ σ H, Pv xs.length σ H → D.nx σ H) :
    ∃ W : Nat → Nat → St → Hp → Prop, (∃ m, W 0 m σ H) ∧ ∀ i m σ H, W i m σ H →
      ((Itl K a).stop i H ∧ D.nx σ H) ∨ ((Itl K a).go i H ∧ ∃ N : St → Hp → Prop, (∀ σ' H', N σ' H' → ∃ m', m' < m ∧ W (i + 1) m' σ' H') ∧ ∀ x H', (Itl K a).yld i H x H' → g x σ H' fun σ2 H2 => tb { D with nx := N, ct := N, bk := D.nx } σ2 H2) := by
  refine ⟨fun i m σ H => m = xs.length - i ∧ i ≤ xs.length ∧ Pv i σ H, ⟨xs.length, by simp, Nat.zero_le _, h0⟩, ?_⟩
  rintro i m σ H ⟨rfl, hi, p⟩
  have q := hl i σ H hi p
  by_cases hlt : i < xs.length
  · refine .inr ⟨⟨xs, xs[i], q, by simp [hlt]⟩, Pv (i + 1), fun σ' H' p' => ⟨xs.length - (i + 1), by omega, rfl, hlt, p'⟩, fun x H' y => ?_⟩
    obtain ⟨e, y⟩ := y
    subst e
    exact hs i x σ _ (y xs q) p
  · have e : i = xs.length := by omega
    subst e
    exact .inl ⟨⟨xs, q, Nat.le_refl _⟩, hd σ H p⟩
end L2

namespace L2
open PySem PySem.Spec PyProof.Rows

abbrev R2 := V → V → Hp → VK → Prop
/-- a two-place operation on values: f is binaryOp op, inplaceOp op or compareOp op -/
def OpR (X : Cx) (f : Value → Value → Sem Value) (r : R2) : Prop :=
  ∀ (pins : List (Addr × Obj)) (s : Shared) (σ : St) (H : Hp) (x y : V) (v u : Value) (Q : VK), Inv X pins σ H s → RelV x v → RelV y u → r x y H Q →
    wpAny (model X.prog X.w) X.A (f v u) (EP X pins σ Q) X.xe s
/-- a one-place operation -/
def UnR (X : Cx) (f : Value → Sem Value) (r : V → Hp → VK → Prop) : Prop :=
  ∀ (pins : List (Addr × Obj)) (s : Shared) (σ : St) (H : Hp) (x : V) (v : Value) (Q : VK), Inv X pins σ H s → RelV x v → r x H Q →
    wpAny (model X.prog X.w) X.A (f v) (EP X pins σ Q) X.xe s
/-- a call of a value that is known (a builtin, a type) with values -/
def CallR (X : Cx) (f : Value) (r : List V → Hp → VK → Prop) : Prop :=
  ∀ (pins : List (Addr × Obj)) (s : Shared) (σ : St) (H : Hp) (xs : List V) (us : List Value) (Q : VK), Inv X pins σ H s → Vals xs us → r xs H Q →
    wpAny (model X.prog X.w) X.A (call f us) (EP X pins σ Q) X.xe s
def tOp (r : R2) (ta tb : TE) : TE := fun σ H Q => ta σ H fun x H1 => tb σ H1 fun y H2 => r x y H2 Q
def tUn (r : V → Hp → VK → Prop) (ta : TE) : TE := fun σ H Q => ta σ H fun x H1 => r x H1 Q
/-- ints in, under C, and a value out -/
def rI (C : Int → Int → Prop) (g : Int → Int → V) : R2 := fun x y H Q => ∃ i j, x = .int i ∧ y = .int j ∧ C i j ∧ Q (g i j) H
def rI0 (g : Int → Int → V) : R2 := fun x y H Q => ∃ i j, x = .int i ∧ y = .int j ∧ Q (g i j) H
def rU (g : Int → V) : V → Hp → VK → Prop := fun x H Q => ∃ i, x = .int i ∧ Q (g i) H

section
variable {X : Cx} {a b c : Expr} {ta tb tc : TE} {pos : Pos}

theorem binT (ha : PE X a ta) (hb : PE X b tb) {pins : List (Addr × Obj)} {s : Shared} {σ : St} {H : Hp} {R : V → V → Hp → Prop} (I : Inv X pins σ H s)
    (h : ta σ H fun x H1 => tb σ H1 fun y H2 => R x y H2) {Q : Value → Shared → Prop} {f : Value → Value → Sem Value}
    (hf : ∀ v u s2 x y H2, Inv X pins σ H2 s2 → RelV x v → RelV y u → R x y H2 → wpAny (model X.prog X.w) X.A (f v u) Q X.xe s2) :
    wpAny (model X.prog X.w) X.A (eval a X.env) (fun v s₁ => wpAny (model X.prog X.w) X.A (eval b X.env) (fun u s₂ => wpAny (model X.prog X.w) X.A (f v u) Q X.xe s₂) X.xe s₁) X.xe s := by
  refine thn (ha pins s σ H _ I h) fun v s1 ⟨x, H1, I1, r1, q1⟩ => ?_
  refine thn (hb pins s1 σ H1 _ I1 q1) fun u s2 ⟨y, H2, I2, r2, q2⟩ => ?_
  exact hf v u s2 x y H2 I2 r1 r2 q2

theorem pe_op {op : Operator} {r : R2} (ho : OpR X (binaryOp op) r) (ha : PE X a ta) (hb : PE X b tb) : PE X (.BinOp a op b pos) (tOp r ta tb) := by
  intro pins s σ H Q I h
  exact wpAny_BinOp (binT ha hb I h fun v u s2 x y H2 I2 rx ry q => ho pins s2 σ H2 x y v u Q I2 rx ry q)
theorem pe_un {op : UnaryOp} {r : V → Hp → VK → Prop} (ho : UnR X (unaryOp op) r) (ha : PE X a ta) : PE X (.UnaryOp op a pos) (tUn r ta) := by
  intro pins s σ H Q I h
  exact UnaryOp_ (thn (ha pins s σ H _ I h) fun v s1 ⟨x, H1, I1, r1, q1⟩ => ho pins s1 σ H1 x v Q I1 r1 q1)
theorem opI {f : Value → Value → Sem Value} {C : Int → Int → Prop} {g : Int → Int → Int}
    (rule : ∀ (i j : Int) (t u : Tok) (s : Shared) (Q : Value → Shared → Prop) (E : Value → Shared → Prop), C i j → Q (.int (g i j) s.toks) { s with toks := s.toks + 1 } → wpAny (model X.prog X.w) X.A (f (.int i t) (.int j u)) Q E s) :
    OpR X f (rI C fun i j => .int (g i j)) := by
  intro pins s σ H x y v u Q I rx ry h
  obtain ⟨i, j, rfl, rfl, hc, q⟩ := h
  obtain ⟨t, rfl⟩ := rx
  obtain ⟨t', rfl⟩ := ry
  exact rule i j t t' s _ _ hc ⟨.int (g i j), H, I.tok _, ⟨_, rfl⟩, q⟩
theorem opI0 {f : Value → Value → Sem Value} {g : Int → Int → Int}
    (rule : ∀ (i j : Int) (t u : Tok) (s : Shared) (Q : Value → Shared → Prop) (E : Value → Shared → Prop), Q (.int (g i j) s.toks) { s with toks := s.toks + 1 } → wpAny (model X.prog X.w) X.A (f (.int i t) (.int j u)) Q E s) :
    OpR X f (rI0 fun i j => .int (g i j)) := by
  intro pins s σ H x y v u Q I rx ry h
  obtain ⟨i, j, rfl, rfl, q⟩ := h
  obtain ⟨t, rfl⟩ := rx
  obtain ⟨t', rfl⟩ := ry
  exact rule i j t t' s _ _ ⟨.int (g i j), H, I.tok _, ⟨_, rfl⟩, q⟩
theorem opB0 {f : Value → Value → Sem Value} {g : Int → Int → Bool}
    (rule : ∀ (i j : Int) (t u : Tok) (s : Shared) (Q : Value → Shared → Prop) (E : Value → Shared → Prop), Q (.bool (g i j)) s → wpAny (model X.prog X.w) X.A (f (.int i t) (.int j u)) Q E s) :
    OpR X f (rI0 fun i j => .bl (g i j)) := by
  intro pins s σ H x y v u Q I rx ry h
  obtain ⟨i, j, rfl, rfl, q⟩ := h
  obtain ⟨t, rfl⟩ := rx
  obtain ⟨t', rfl⟩ := ry
  exact rule i j t t' s _ _ ⟨.bl (g i j), H, I, rfl, q⟩

def CDiv (i j : Int) : Prop := 0 < j ∧ j < 1073741824
def CPow (i j : Int) : Prop := 0 ≤ j ∧ j ≤ 1000000 ∧ i.natAbs < 2 ^ 64
def CMul (i j : Int) : Prop := (-(2 ^ 64) < i ∧ i < 2 ^ 64) ∨ (-(2 ^ 64) < j ∧ j < 2 ^ 64)
theorem CMul.ok {i j : Int} (h : CMul i j) : IntMulOk i j := by
  rcases h with ⟨h1, h2⟩ | ⟨h1, h2⟩
  · exact .of_left (intBits_le_64 h1 h2)
  · exact .of_right (intBits_le_64 h1 h2)
theorem op_add : OpR X (binaryOp .Add) (rI0 fun i j => .int (i + j)) := opI0 fun _ _ _ _ _ _ _ q => add_int q
theorem op_sub : OpR X (binaryOp .Sub) (rI0 fun i j => .int (i - j)) := opI0 fun _ _ _ _ _ _ _ q => sub_int q
theorem op_mul : OpR X (binaryOp .Mult) (rI CMul fun i j => .int (i * j)) := opI fun _ _ _ _ _ _ _ hc q => mul_int q hc.ok
/-- // by a positive divisor -/
theorem op_fdiv : OpR X (binaryOp .FloorDiv) (rI CDiv fun i j => .int (i / j)) := opI fun i j _ _ _ _ _ hc q => by
  have h1 : (0 : Int) < j := hc.1
  have h2 : j < 1073741824 := hc.2
  exact floordiv_int (by omega) (by rw [Int.fdiv_eq_ediv_of_nonneg i (by omega)]; exact q) (.inl (PyProof.noPylong_small (by omega)))
theorem op_shl : OpR X (binaryOp .LShift) (rI CPow fun i j => .int (i * 2 ^ j.toNat)) := opI fun _ _ _ _ _ _ _ hc q => lshift_int_small hc.1 hc.2.1 hc.2.2 q
theorem unI {f : Value → Sem Value} {g : Int → Int}
    (rule : ∀ (i : Int) (t : Tok) (s : Shared) (Q : Value → Shared → Prop) (E : Value → Shared → Prop), Q (.int (g i) s.toks) { s with toks := s.toks + 1 } → wpAny (model X.prog X.w) X.A (f (.int i t)) Q E s) :
    UnR X f (rU fun i => .int (g i)) := by
  intro pins s σ H x v Q I rx h
  obtain ⟨i, rfl, q⟩ := h
  obtain ⟨t, rfl⟩ := rx
  exact rule i t s _ _ ⟨.int (g i), H, I.tok _, ⟨_, rfl⟩, q⟩
theorem un_neg : UnR X (unaryOp .USub) (rU fun i => .int (-i)) := unI fun _ _ _ _ _ q => neg_int q
end

/-- the scalars that == tells apart as data does -/
def scal : V → V → Bool
  | .non, .non => true | .non, .int _ => true | .int _, .non => true | .non, .bl _ => true | .bl _, .non => true | .non, .str _ => true | .str _, .non => true
  | .int _, .int _ => true | .bl _, .bl _ => true | .str _, .str _ => true | .byt _, .byt _ => true
  | .int _, .str _ => true | .str _, .int _ => true | .bl _, .str _ => true | .str _, .bl _ => true
  | _, _ => false
def rEq : R2 := fun x y H Q => scal x y = true ∧ Q (.bl (decide (x = y))) H
def rNe : R2 := fun x y H Q => scal x y = true ∧ Q (.bl (!decide (x = y))) H

theorem dec_int {i j : Int} : decide (V.int i = V.int j) = (i == j) := by
  rw [Bool.eq_iff_iff]
  simp
theorem dec_bl {i j : Bool} : decide (V.bl i = V.bl j) = (i == j) := by
  rw [Bool.eq_iff_iff]
  simp
theorem dec_str {i j : Str} : decide (V.str i = V.str j) = (i == j) := by
  rw [Bool.eq_iff_iff]
  simp
theorem dec_byt {i j : Array UInt8} : decide (V.byt i = V.byt j) = (i.toList == j.toList) := by
  rw [Bool.eq_iff_iff]
  cases i
  cases j
  simp

section
variable {X : Cx} {a b c : Expr} {ta tb tc : TE} {pos : Pos}
theorem fin_bl {pins : List (Addr × Obj)} {σ : St} {H : Hp} {s : Shared} {Q : VK} {k k' : Bool} (I : Inv X pins σ H s) (q : Q (.bl k) H) (e : k = k') : EP X pins σ Q (.bool k') s := by
  subst e
  exact ⟨.bl k, H, I, rfl, q⟩
theorem op_eq : OpR X (compareOp .Eq) rEq := by
  intro pins s σ H x y v u Q I rx ry h
  obtain ⟨hs, q⟩ := h
  cases x with
  | non =>
    cases rx
    cases y with
    | non => cases ry; exact PySem.EqNone.eq_none_none (fin_bl I q (by simp))
    | bl j => cases ry; exact PySem.EqNone.eq_none_bool (fin_bl I q (by simp))
    | int j => obtain ⟨t', rfl⟩ := ry; exact PySem.EqNone.eq_none_int (fin_bl I q (by simp))
    | str j => obtain ⟨t', rfl⟩ := ry; exact PySem.EqNone.eq_none_str (fin_bl I q (by simp))
    | _ => exact absurd (show false = true from hs) Bool.false_ne_true
  | bl i =>
    cases rx
    cases y with
    | non => cases ry; exact PySem.EqNone.eq_bool_none (fin_bl I q (by simp))
    | bl j => cases ry; exact eq_bool (fin_bl I q dec_bl)
    | str j => obtain ⟨t', rfl⟩ := ry; exact PySem.EqMixed.eq_bool_str (fin_bl I q (by simp))
    | _ => exact absurd (show false = true from hs) Bool.false_ne_true
  | int i =>
    obtain ⟨t, rfl⟩ := rx
    cases y with
    | non => cases ry; exact PySem.EqNone.eq_int_none (fin_bl I q (by simp))
    | int j => obtain ⟨t', rfl⟩ := ry; exact eq_int (fin_bl I q dec_int)
    | str j => obtain ⟨t', rfl⟩ := ry; exact PySem.EqMixed.eq_int_str (fin_bl I q (by simp))
    | _ => exact absurd (show false = true from hs) Bool.false_ne_true
  | str i =>
    obtain ⟨t, rfl⟩ := rx
    cases y with
    | non => cases ry; exact PySem.EqNone.eq_str_none (fin_bl I q (by simp))
    | bl j => cases ry; exact PySem.EqMixed.eq_str_bool (fin_bl I q (by simp))
    | int j => obtain ⟨t', rfl⟩ := ry; exact PySem.EqMixed.eq_str_int (fin_bl I q (by simp))
    | str j => obtain ⟨t', rfl⟩ := ry; exact eq_str (fin_bl I q dec_str)
    | _ => exact absurd (show false = true from hs) Bool.false_ne_true
  | byt i =>
    obtain ⟨t, rfl⟩ := rx
    cases y with
    | byt j => obtain ⟨t', rfl⟩ := ry; exact PySem.W.eq_bytes (fin_bl I q dec_byt)
    | _ => exact absurd (show false = true from hs) Bool.false_ne_true
  | _ => cases y <;> exact absurd (show false = true from hs) Bool.false_ne_true
theorem op_ne : OpR X (compareOp .NotEq) rNe := by
  intro pins s σ H x y v u Q I rx ry h
  obtain ⟨hs, q⟩ := h
  cases x with
  | non =>
    cases rx
    cases y with
    | non => cases ry; exact PySem.EqNone.ne_none_none (fin_bl I q (by simp))
    | bl j => cases ry; exact PySem.EqNone.ne_none_bool (fin_bl I q (by simp))
    | int j => obtain ⟨t', rfl⟩ := ry; exact PySem.EqNone.ne_none_int (fin_bl I q (by simp))
    | str j => obtain ⟨t', rfl⟩ := ry; exact PySem.EqNone.ne_none_str (fin_bl I q (by simp))
    | _ => exact absurd (show false = true from hs) Bool.false_ne_true
  | bl i =>
    cases rx
    cases y with
    | non => cases ry; exact PySem.EqNone.ne_bool_none (fin_bl I q (by simp))
    | bl j => cases ry; exact ne_bool (fin_bl I q (congrArg not dec_bl))
    | str j => obtain ⟨t', rfl⟩ := ry; exact PySem.EqMixed.ne_bool_str (fin_bl I q (by simp))
    | _ => exact absurd (show false = true from hs) Bool.false_ne_true
  | int i =>
    obtain ⟨t, rfl⟩ := rx
    cases y with
    | non => cases ry; exact PySem.EqNone.ne_int_none (fin_bl I q (by simp))
    | int j => obtain ⟨t', rfl⟩ := ry; exact ne_int (fin_bl I q (congrArg not dec_int))
    | str j => obtain ⟨t', rfl⟩ := ry; exact PySem.EqMixed.ne_int_str (fin_bl I q (by simp))
    | _ => exact absurd (show false = true from hs) Bool.false_ne_true
  | str i =>
    obtain ⟨t, rfl⟩ := rx
    cases y with
    | non => cases ry; exact PySem.EqNone.ne_str_none (fin_bl I q (by simp))
    | bl j => cases ry; exact PySem.EqMixed.ne_str_bool (fin_bl I q (by simp))
    | int j => obtain ⟨t', rfl⟩ := ry; exact PySem.EqMixed.ne_str_int (fin_bl I q (by simp))
    | str j => obtain ⟨t', rfl⟩ := ry; exact ne_str (fin_bl I q (congrArg not dec_str))
    | _ => exact absurd (show false = true from hs) Bool.false_ne_true
  | byt i =>
    obtain ⟨t, rfl⟩ := rx
    cases y with
    | byt j => obtain ⟨t', rfl⟩ := ry; exact PySem.W.ne_bytes (fin_bl I q (congrArg not dec_byt))
    | _ => exact absurd (show false = true from hs) Bool.false_ne_true
  | _ => cases y <;> exact absurd (show false = true from hs) Bool.false_ne_true

theorem op_lt : OpR X (compareOp .Lt) (rI0 fun i j => .bl (decide (i < j))) := opB0 fun _ _ _ _ _ _ _ q => lt_int q
theorem op_le : OpR X (compareOp .LtE) (rI0 fun i j => .bl (decide (i ≤ j))) := opB0 fun _ _ _ _ _ _ _ q => le_int q
theorem op_gt : OpR X (compareOp .Gt) (rI0 fun i j => .bl (decide (j < i))) := opB0 fun _ _ _ _ _ _ _ q => gt_int q
theorem op_ge : OpR X (compareOp .GtE) (rI0 fun i j => .bl (decide (j ≤ i))) := opB0 fun _ _ _ _ _ _ _ q => ge_int q
theorem nomark (b : Expr) {op : CmpOp} (h : op ≠ .In := by decide) (h2 : op ≠ .NotIn := by decide) : behindInMarks op b = false := by
  have e1 : (op == CmpOp.In) = false := by cases op <;> first | rfl | exact absurd rfl h
  have e2 : (op == CmpOp.NotIn) = false := by cases op <;> first | rfl | exact absurd rfl h2
  cases b <;> simp [behindInMarks, e1, e2]
/-- a comparison as a value; hm: nomark b, or (for in, not in) by with_unfolding_all rfl -/
theorem pe_cmpR {op : CmpOp} {r : R2} (ho : OpR X (compareOp op) r) (ha : PE X a ta) (hb : PE X b tb) (hm : behindInMarks op b = false) : PE X (.Compare a [op] [b] pos) (tOp r ta tb) := by
  intro pins s σ H Q I h
  exact wpAny_Compare1 (binT ha hb I h fun v u s2 x y H2 I2 rx ry q => ho pins s2 σ H2 x y v u Q I2 rx ry q) hm
/-- a reading of a value as a test -/
def tTest (t : TE) : TT := fun σ H Q => t σ H fun x H' => ∃ k, x = .bl k ∧ Q k H'
theorem pt_cmpR {op : CmpOp} {r : R2} (ho : OpR X (compareOp op) r) (ha : PE X a ta) (hb : PE X b tb) (hm : behindInMarks op b = false) : PT X (.Compare a [op] [b] pos) (tTest (tOp r ta tb)) := by
  intro pins s σ H Q I h
  refine wpAny_isTrue_Compare1 (thn (ha pins s σ H _ I h) fun v s1 ⟨x, H1, I1, r1, q1⟩ => thn (hb pins s1 σ H1 _ I1 q1) fun u s2 ⟨y, H2, I2, r2, q2⟩ =>
    thn (ho pins s2 σ H2 x y v u _ I2 r1 r2 q2) fun c s3 ⟨z, H3, I3, r3, k, e, q3⟩ => ?_) hm
  subst e
  cases r3
  exact wpAny_truthy_bool ⟨H3, I3, q3⟩
/-- a op1 b op2 c -/
def tChain (r r' : R2) (ta tb tc : TE) : TE := fun σ H Q => ta σ H fun x H1 => tb σ H1 fun y H2 => r x y H2 fun z H3 => ∃ k, z = .bl k ∧
  (if k = true then tc σ H3 fun w' H4 => r' y w' H4 Q else Q (.bl false) H3)
theorem pt_chain {op op' : CmpOp} {r r' : R2} (ho : OpR X (compareOp op) r) (ho' : OpR X (compareOp op') r') (ha : PE X a ta) (hb : PE X b tb) (hc : PE X c tc)
    (hm : lastMarks [op, op'] [b, c] = false := by with_unfolding_all rfl) : PT X (.Compare a [op, op'] [b, c] pos) (tTest (tChain r r' ta tb tc)) := by
  intro pins s σ H Q I h
  refine isTrue_chain (thn (ha pins s σ H _ I h) fun v s1 ⟨x, H1, I1, r1, q1⟩ => test_link (thn (hb pins s1 σ H1 _ I1 q1) fun u s2 ⟨y, H2, I2, r2, q2⟩ =>
    thn (ho pins s2 σ H2 x y v u _ I2 r1 r2 q2) fun d s3 ⟨z, H3, I3, r3, k, e, q3⟩ => ?_)) hm
  subst e
  cases r3
  refine wpAny_truthy_bool ?_
  cases k with
  | false =>
    obtain ⟨k', e', q'⟩ := q3
    cases e'
    exact ite_ff ⟨H3, I3, q'⟩
  | true =>
    refine ite_tt (test_last (thn (hc pins s3 σ H3 _ I3 q3) fun w' s4 ⟨z', H4, I4, r4, q4⟩ => thn (ho' pins s4 σ H4 y z' u w' _ I4 r2 r4 q4) fun d' s5 ⟨z2, H5, I5, r5, k2, e2, q5⟩ => ?_))
    subst e2
    cases r5
    exact wpAny_truthy_bool ⟨H5, I5, q5⟩

theorem line63 : (sizeLine : Nat) < 2 ^ 63 := by rw [sizeLine_eq]; decide
theorem vals1 {x : V} {us : List Value} (r : Vals [x] us) : ∃ u, us = [u] ∧ RelV x u := by
  cases r with
  | cons r1 r2 => cases r2; exact ⟨_, rfl, r1⟩
theorem vals2 {x y : V} {us : List Value} (r : Vals [x, y] us) : ∃ u w', us = [u, w'] ∧ RelV x u ∧ RelV y w' := by
  cases r with
  | cons r1 r2 =>
    cases r2 with
    | cons r3 r4 => cases r4; exact ⟨_, _, rfl, r1, r3⟩
theorem call_max2 (hc : X.calm = true) : CallR X (.builtin "max") (fun xs H Q => ∃ i j, xs = [.int i, .int j] ∧ Q (.int (if j > i then j else i)) H) := by
  intro pins s σ H xs us Q I r h
  obtain ⟨i, j, rfl, q⟩ := h
  obtain ⟨u, w', rfl, ⟨t, rfl⟩, ⟨t', rfl⟩⟩ := vals2 r
  refine max_two_ints (I.ok.hd hc) fun h' tk k => ⟨_, H, I.kept k, ?_, q⟩
  by_cases hj : j > i
  · rw [if_pos hj, if_pos hj]; exact ⟨_, rfl⟩
  · rw [if_neg hj, if_neg hj]; exact ⟨_, rfl⟩
end
end L2

namespace L2
open PySem PySem.Spec PyProof.Rows

structure ObjM (h : Heap) (x dx C : Addr) (mA : Str → Option Value) : Prop where
  obj : h.get? x = some (PySem.W.instObj C dx)
  ns : h.Ns1 dx mA
  ne : dx ≠ x

theorem lookIn_ns {h : Heap} {dx : Addr} {mA : Str → Option Value} (n : h.Ns1 dx mA) : ∃ od, h.get? dx = some od ∧ ∀ name, PySem.W.lookIn name od = some (mA name) := by
  obtain ⟨o, es, ep, ho, hd, hk, _, hm⟩ := n
  refine ⟨o, ho, fun name => ?_⟩
  have e := hm name
  unfold nsFind findBy at e
  rw [← Array.find?_toList] at e
  unfold PySem.W.lookIn
  rw [hd]
  dsimp only
  split
  · rename_i y q
    rw [q] at e
    exact congrArg some e
  · rename_i q
    rw [q] at e
    have a : es.toList.any (·.refKey) = false := by
      rw [List.any_eq_false]
      intro y hy
      obtain ⟨z, t, hkey⟩ := hk y (Array.mem_toList_iff.mp hy)
      simp [DictEntry.refKey, hkey]
    have a' : ¬ es.toList.any (·.refKey) = true := by rw [a]; exact Bool.false_ne_true
    rw [if_neg a']
    exact congrArg some e

theorem ObjM.look {h : Heap} {x dx C : Addr} {mA : Str → Option Value} (I : ObjM h x dx C mA) : ∃ od, PySem.W.InstAt h x (PySem.W.instObj C dx) C (some od) ∧ ∀ name, PySem.W.lookIn name od = some (mA name) :=
  let ⟨od, ho, hl⟩ := lookIn_ns I.ns
  ⟨od, ⟨I.obj, rfl, rfl, ho⟩, hl⟩

section
variable {prog : Program} {w : World} {A : Around} {E : Value → Shared → Prop} {s : Shared} {K : PySem.W.Frag} {x dx C f : Addr} {mA : Str → Option Value} {name : Str} {v : Value}

theorem get_map {expr : Bool} {Q : Value → Shared → Prop} (X : K.In s.heap) (I : ObjM s.heap x dx C mA) (hg : PySem.W.plainGet K C name = true) (hh : PySem.W.hasDictIn K C = true)
    (ha : PySem.W.findIn K (.ref C) name = some none) (hv : mA name = some v) (hv' : PySem.W.handedIn v = true) (h : Q v { s with toks := s.toks + 1 }) :
    wpAny (model prog w) A (getAttr (.ref x) name expr) Q E s := by
  obtain ⟨od, J, hl⟩ := I.look
  exact PySem.W.get_value X J (PySem.W.plainGet_of hg).1 (PySem.W.findObj_own hh ha rfl (by rw [hl, hv])) hv' h

theorem get_meth {pl : Sem Bool} {Q : Value × List Value → Shared → Prop} (X : K.In s.heap) (I : ObjM s.heap x dx C mA) (hg : PySem.W.plainGet K C name = true)
    (hf : PySem.W.findIn K (.ref C) name = some (some (.ref f))) (ht : PySem.W.isFn K (.ref f) = true) (hv : mA name = none) (h : Q (.ref f, [.ref x]) s) :
    wpAny (model prog w) A (getMethod (.ref x) name pl) Q E s := by
  obtain ⟨od, J, hl⟩ := I.look
  exact PySem.W.method_fn X J (PySem.W.plainGet_of hg).1 (PySem.W.plainGet_of hg).2 hf (beq_iff_eq.mp ht) (by show (PySem.W.lookIn name od).map (·.isSome) = some false; rw [hl, hv]; rfl) h

theorem set_map {ns : List Str} {Q : Unit → Shared → Prop} (X : K.In s.heap) (I : ObjM s.heap x dx C mA)
    (hs : PySem.W.findIn K (.ref C) "__setattr__" = some (some (.builtin "object.__setattr__"))) (hp : PySem.W.plainOver K C = true) (ht : PySem.W.takerIn K C name = some none) (hh : PySem.W.hasDictIn K C = true)
    (hw : PySem.Within mA ns) (hsz : ns.length ≤ sizeLine)
    (h : ∀ h', ObjM h' x dx C (fun y => if y = name then some v else mA y) → Heap.SameBut dx s.heap h' → Q () { s with heap := h', toks := s.toks + 2 }) :
    wpAny (model prog w) A (setAttr (.ref x) name v) Q E s := by
  obtain ⟨od, J, hl⟩ := I.look
  refine PySem.W.set_plain X J hs (PySem.W.osa_open (s := { s with toks := s.toks + 1 }) (r := none) X J hp ht fun b => ?_)
  obtain ⟨cd, hc, hd'⟩ := PySem.W.any_some hh
  have hx : s.heap.get? x = some ⟨.ref C, some dx, .plain, #[]⟩ := I.obj
  refine wpAny_bind (wpAny_pure (wpAny_bind (wpAny_bind (wpAny_loadPart hx (wpAny_bind (PySem.W.Looks.here (s := { s with toks := s.toks + 1 }) (PySem.W.looks_clsIn X hc) ?_))))))
  rw [hd']
  refine wpAny_pure (a := some dx) (wpAny_bind (wpAny_pure (wpAny_bind ?_)))
  refine wpAny_nsSet1 (s := { s with toks := s.toks + 1 }) I.ns fun h' hn2 hs2 => ?_
  obtain ⟨oD, esD, epD, hoD, hdD, hcD⟩ := hn2.count (PySem.Within.cons name v hw)
  refine wpAny_bind (wpAny_lookBehind hoD (by rw [hdD]; exact pastItsLine_dict (Nat.le_trans hcD (by rw [List.length_cons]; omega))) ?_)
  exact wpAny_pure (h _ ⟨(hs2.2 _ (Ne.symm I.ne)).trans I.obj, hn2, I.ne⟩ hs2)

/-- C(..): the dict at the heap's end, the instance behind it; then its __init__ -/
theorem make_map {R : Result → Shared → Prop} {vs : List Value} {kw : List (Str × Value)} (X : K.In s.heap) (hm : PySem.W.makesIn K C = true)
    (hi : PySem.W.findIn K (.ref C) "__init__" = some (some (.ref f))) (hf : PySem.W.typeIn K (.ref f) = some (.type "function"))
    (h : codeAny (model prog w) (A.under (.builtin "type.__call__" ⟨.ref C :: vs, kw⟩)) (.call (.ref f) ⟨.ref (s.heap.objs.size + 1) :: vs, kw⟩) (PySem.W.InitBack (s.heap.objs.size + 1) R)
      { s with heap := (s.heap.push PySem.W.emptyDict).push (PySem.W.instObj C s.heap.objs.size) }) :
    codeAny (model prog w) A (.call (.ref C) ⟨vs, kw⟩) R s := by
  obtain ⟨hh, g, d, t, os⟩ := s
  exact PySem.W.make_core (PySem.W.makes_of X hm) (PySem.W.looks_findIn X hi) (fun self => PySem.W.bind_fn X self hf) (.inl rfl) h
end

def putF (f : Str) (v : V) : List (Str × V) → List (Str × V)
  | [] => [(f, v)]
  | (g, x) :: r => if g = f then (g, v) :: r else (g, x) :: putF f v r
theorem lookup_putF (f g : Str) (v : V) : ∀ fs : List (Str × V), (putF f v fs).lookup g = if g = f then some v else fs.lookup g
  | [] => by
    show List.lookup g [(f, v)] = _
    by_cases h : g = f
    · have hb : (g == f) = true := beq_iff_eq.mpr h
      simp only [List.lookup, hb, if_pos h]
    · have hb : (g == f) = false := beq_eq_false_iff_ne.mpr h
      simp only [List.lookup, hb, if_neg h]
  | (k, x) :: r => by
    have ih := lookup_putF f g v r
    rw [show putF f v ((k, x) :: r) = (if k = f then (k, v) :: r else (k, x) :: putF f v r) from rfl]
    by_cases hk : k = f
    · rw [if_pos hk]
      by_cases h : g = k
      · have hb : (g == k) = true := beq_iff_eq.mpr h
        simp only [List.lookup, hb, if_pos (h.trans hk)]
      · have hb : (g == k) = false := beq_eq_false_iff_ne.mpr h
        simp only [List.lookup, hb, if_neg (fun e : g = f => h (e.trans hk.symm))]
    · rw [if_neg hk]
      by_cases h : g = k
      · have hb : (g == k) = true := beq_iff_eq.mpr h
        simp only [List.lookup, hb, if_neg (fun e : g = f => hk (h.symm.trans e))]
      · have hb : (g == k) = false := beq_eq_false_iff_ne.mpr h
        simp only [List.lookup, hb]
        exact ih
theorem keys_putF (f : Str) (v : V) : ∀ fs : List (Str × V), f ∈ (putF f v fs).map (·.1) ∧ ∀ g, g ∈ fs.map (·.1) → g ∈ (putF f v fs).map (·.1)
  | [] => ⟨by simp [putF], fun g h => by simp at h⟩
  | (k, x) :: r => by
    obtain ⟨i1, i2⟩ := keys_putF f v r
    rw [show putF f v ((k, x) :: r) = (if k = f then (k, v) :: r else (k, x) :: putF f v r) from rfl]
    by_cases hk : k = f
    · rw [if_pos hk]
      subst hk
      exact ⟨by simp, fun g h => by simpa using h⟩
    · rw [if_neg hk]
      refine ⟨?_, fun g h => ?_⟩
      · rw [List.map_cons]
        exact List.mem_cons_of_mem _ i1
      · rw [List.map_cons] at h ⊢
        rcases List.mem_cons.mp h with e | e
        · exact List.mem_cons.mpr (.inl e)
        · exact List.mem_cons_of_mem _ (i2 g e)
theorem length_putF (f : Str) (v : V) : ∀ fs : List (Str × V), (putF f v fs).length ≤ fs.length + 1
  | [] => by simp [putF]
  | (k, x) :: r => by
    have ih := length_putF f v r
    rw [show putF f v ((k, x) :: r) = (if k = f then (k, v) :: r else (k, x) :: putF f v r) from rfl]
    by_cases hk : k = f
    · rw [if_pos hk, List.length_cons, List.length_cons]; omega
    · rw [if_neg hk, List.length_cons, List.length_cons]; omega

theorem RelO.some_of {v : V} {o : Option Value} (r : RelO (some v) o) : ∃ u, o = some u ∧ RelV v u := by
  cases o with
  | none => exact (show False from r).elim
  | some u => exact ⟨u, rfl, r⟩
theorem RelO.none_of {o : Option Value} (r : RelO none o) : o = none := by
  cases o with
  | none => rfl
  | some u => exact (show False from r).elim
theorem handed_of {v : V} {u : Value} (r : RelV v u) : PySem.W.handedIn u = true := by
  cases v with
  | non => cases (show u = Value.none from r); rfl
  | bl b => cases (show u = Value.bool b from r); rfl
  | int i => obtain ⟨t, e⟩ := (show ∃ t, u = Value.int i t from r); cases e; rfl
  | str x => obtain ⟨t, e⟩ := (show ∃ t, u = Value.str x t from r); cases e; rfl
  | byt b => obtain ⟨t, e⟩ := (show ∃ t, u = Value.bytes b t from r); cases e; rfl
  | flt b => obtain ⟨t, e⟩ := (show ∃ t, u = Value.float b t from r); cases e; rfl
  | ref a => cases (show u = Value.ref a from r); rfl
  | ty n => cases (show u = Value.type n from r); rfl

section
variable {P : Program} {w : World} {H H' : Hp} {h h' : Heap} {a C dx : Addr} {fs fs' : List (Str × V)}
theorem ins_get (hok : HOk P w H h) (e : H a = some (.ins C dx fs)) : ∃ mA, ObjM h a dx C mA ∧ (∀ f, RelO (fs.lookup f) (mA f)) ∧ PySem.Within mA (fs.map (·.1)) ∧ fs.length ≤ 1000 ∧ H dx = some (.own a) := by
  obtain ⟨d, z, ne, ob, mA, n, r, q⟩ := (show ObjOk P w H h a (.ins C dx fs) from hok a _ e)
  exact ⟨mA, ⟨ob, n, ne⟩, r, q, z, d⟩
end

structure Cls (K : PySem.W.Frag) (C : Addr) : Prop where
  pg : PySem.W.plainGet K C Str.empty = true
  hd : PySem.W.hasDictIn K C = true
  po : PySem.W.plainOver K C = true
  sa : PySem.W.findIn K (.ref C) "__setattr__" = some (some (.builtin "object.__setattr__"))
theorem Cls.get {K : PySem.W.Frag} {C : Addr} (c : Cls K C) (f : Str) : PySem.W.plainGet K C f = true := c.pg
/-- no class of it has the name -/
def NoAttr (K : PySem.W.Frag) (C : Addr) (f : Str) : Prop := PySem.W.findIn K (.ref C) f = some none
theorem NoAttr.taker {K : PySem.W.Frag} {C : Addr} {f : Str} (n : NoAttr K C f) : PySem.W.takerIn K C f = some none := by
  unfold PySem.W.takerIn
  rw [show PySem.W.findIn K (.ref C) f = some none from n]
  rfl
/-- a constant of the class -/
structure Con (K : PySem.W.Frag) (C : Addr) (f : Str) (v : V) (u : Value) : Prop where
  at_ : PySem.W.findIn K (.ref C) f = some (some u)
  rel : RelV v u
  get : PySem.W.specialIn K u "__get__" = some none
  cp : PySem.W.copiedNames.contains f = false
/-- a method: a plain def of the class or of one above it -/
structure Meth (K : PySem.W.Frag) (C : Addr) (m : Str) (f : Addr) : Prop where
  at_ : PySem.W.findIn K (.ref C) m = some (some (.ref f))
  fn : PySem.W.isFn K (.ref f) = true
  kp : PySem.W.keepIn K (.ref f) = true

section
variable {X : Cx} {pins : List (Addr × Obj)} {σ : St} {H : Hp} {s : Shared} {a C dx : Addr} {fs : List (Str × V)} {f : Str} {v : V} {A : Around} {E : Value → Shared → Prop}

theorem getattr_ok {b : Bool} {Q : Value → Shared → Prop} (I : Inv X pins σ H s) (e : H a = some (.ins C dx fs)) (c : Cls X.K C) (n : NoAttr X.K C f) (l : fs.lookup f = some v)
    (h : ∀ u s', Inv X pins σ H s' → RelV v u → Q u s') : wpAny (model X.prog X.w) A (getAttr (.ref a) f b) Q E s := by
  obtain ⟨mA, O, r, _, _, _⟩ := ins_get I.hok e
  obtain ⟨u, hu, ru⟩ := RelO.some_of (v := v) (o := mA f) (by rw [← l]; exact r f)
  exact get_map I.kIn O (c.get f) c.hd n hu (handed_of ru) (h u _ (I.tok _) ru)

theorem getmeth_ok {m : Str} {g : Addr} {pl : Sem Bool} {Q : Value × List Value → Shared → Prop} (I : Inv X pins σ H s) (e : H a = some (.ins C dx fs)) (c : Cls X.K C) (k : Meth X.K C m g) (l : fs.lookup m = none)
    (h : Q (.ref g, [.ref a]) s) : wpAny (model X.prog X.w) A (getMethod (.ref a) m pl) Q E s := by
  obtain ⟨mA, O, r, _, _, _⟩ := ins_get I.hok e
  have hn : mA m = none := RelO.none_of (by rw [← l]; exact r m)
  exact get_meth I.kIn O (c.get m) k.at_ k.fn hn h

theorem setattr_ok {y : V} {u : Value} {Q : Unit → Shared → Prop} (I : Inv X pins σ H s) (e : H a = some (.ins C dx fs)) (c : Cls X.K C) (n : NoAttr X.K C f) (hl : fs.length < 1000) (ry : RelV y u)
    (h : ∀ s', Inv X pins σ (upd H a (.ins C dx (putF f y fs))) s' → Q () s') : wpAny (model X.prog X.w) A (setAttr (.ref a) f u) Q E s := by
  obtain ⟨mA, O, r, wi, _, ho⟩ := ins_get I.hok e
  have hz : (fs.map (·.1)).length ≤ sizeLine := by rw [List.length_map, sizeLine_eq]; omega
  refine set_map I.kIn O c.sa c.po n.taker c.hd wi hz fun h' O' sb => h _ ?_
  have hd : ∃ o, h'.get? dx = some o := let ⟨o, _, _, e', _⟩ := O'.ns; ⟨o, e'⟩
  refine I.write (x := a) (e := dx) (by rw [e]; exact True.intro) (.inr ho) (fun b q hb z => (sb.2 b hb).trans z) hd ?_
  refine ⟨by rw [upd_ne O.ne]; exact ho, ?_, O.ne, O'.obj, _, O'.ns, fun g => ?_, fun g hg => ?_⟩
  · have := length_putF f y fs; omega
  · show RelO ((putF f y fs).lookup g) (if g = f then some u else mA g)
    rw [lookup_putF]
    by_cases q : g = f
    · rw [if_pos q, if_pos q]; exact ry
    · rw [if_neg q, if_neg q]; exact r g
  · by_cases q : g = f
    · rw [q]; exact (keys_putF f y fs).1
    · refine (keys_putF f y fs).2 g (wi g fun z => hg ?_)
      show (if g = f then some u else mA g) = none
      rw [if_neg q]; exact z

/-- a new instance, tracked, without attributes -/
theorem Inv.made (I : Inv X pins σ H s) : Inv X pins σ (upd (upd H s.heap.objs.size (.own (s.heap.objs.size + 1))) (s.heap.objs.size + 1) (.ins C s.heap.objs.size []))
    { s with heap := (s.heap.push PySem.W.emptyDict).push (PySem.W.instObj C s.heap.objs.size) } := by
  have e1 : (s.heap.push PySem.W.emptyDict).get? s.heap.objs.size = some PySem.W.emptyDict := Heap.get?_push_size s.heap rfl
  have e2 : ((s.heap.push PySem.W.emptyDict).push (PySem.W.instObj C s.heap.objs.size)).get? (s.heap.objs.size + 1) = some (PySem.W.instObj C s.heap.objs.size) := by
    have := Heap.get?_push_size (s.heap.push PySem.W.emptyDict) (o := PySem.W.instObj C s.heap.objs.size) rfl
    rwa [Heap.size_push] at this
  have e3 : (s.heap.push PySem.W.emptyDict).Ns s.heap.objs.size (fun _ => none) := ⟨PySem.W.emptyDict, #[], _, e1, rfl, (fun e he => absurd he (by simp)), fun _ => rfl⟩
  have I1 := I.laid (a := s.heap.objs.size) (o := .own (s.heap.objs.size + 1)) (h' := s.heap.push PySem.W.emptyDict) (t' := s.toks) (fun b u q => Heap.get?_push_of_some _ q) (Nat.le_refl _) ⟨_, e1⟩
  refine I1.laid (a := s.heap.objs.size + 1) (o := .ins C s.heap.objs.size []) (t' := s.toks) (fun b u q => Heap.get?_push_of_some _ q) (Nat.le_of_eq (Heap.size_push _ _)) ?_
  have ne : s.heap.objs.size ≠ s.heap.objs.size + 1 := Nat.ne_of_lt (Nat.lt_succ_self _)
  refine ⟨by rw [upd_ne ne, upd_same], Nat.zero_le _, ne, e2, fun _ => none, (Heap.Ns1.of_empty e3).at fun o q => Heap.get?_push_of_some _ q, fun _ => True.intro, fun y hy => absurd rfl hy⟩

/-- e.f where nothing but the object is asked: through attributeBase (super) and the last hold -/
theorem attr_of {prog : Program} {w : World} {env : Env} {e : Expr} {f : Str} {pos : Pos} {s : Shared} {Q : Value → Shared → Prop} (hb : attributeBase e f env (eval e env) = eval e env)
    (h : wpAny (model prog w) A (eval e env) (fun o s₁ => wpAny (model prog w) A (getAttr o f true) Q E s₁) E s) : wpAny (model prog w) A (eval (.Attribute e f pos) env) Q E s :=
  Attribute_any_ h (by rw [arm_eval_Attribute, hb])
end

/-- e.f, an attribute of the instance -/
def tFld (K : PySem.W.Frag) (ta : TE) (f : Str) : TE := fun σ H Q => ta σ H fun x H1 => ∃ a C dx fs v, x = .ref a ∧ H1 a = some (.ins C dx fs) ∧ Cls K C ∧ NoAttr K C f ∧ fs.lookup f = some v ∧ Q v H1
/-- e.f = value -/
def sFld (K : PySem.W.Frag) (ta tv : TE) (f : Str) : TS := fun D σ H => tv σ H fun y H1 => ta σ H1 fun x H2 => ∃ a C dx fs, x = .ref a ∧ H2 a = some (.ins C dx fs) ∧ Cls K C ∧ NoAttr K C f ∧ fs.length < 1000 ∧
  D.nx σ (upd H2 a (.ins C dx (putF f y fs)))
/-- an augmented operator on two values -/
def InOp (X : Cx) (op : Operator) (rd : V → V → Hp → VK → Prop) : Prop :=
  ∀ (pins : List (Addr × Obj)) (s : Shared) (σ : St) (H : Hp) (x y : V) (u v : Value) (Q : VK), Inv X pins σ H s → RelV x u → RelV y v → rd x y H Q → wpAny (model X.prog X.w) X.A (inplaceOp op u v) (EP X pins σ Q) X.xe s
/-- e.f op= value -/
def sFldAug (K : PySem.W.Frag) (ta tv : TE) (rd : V → V → Hp → VK → Prop) (f : Str) : TS := fun D σ H => ta σ H fun x H1 => ∃ a C dx fs v, x = .ref a ∧ H1 a = some (.ins C dx fs) ∧ Cls K C ∧ NoAttr K C f ∧ fs.lookup f = some v ∧
  tv σ H1 fun y H2 => rd v y H2 fun z H3 => ∃ dx' fs', H3 a = some (.ins C dx' fs') ∧ fs'.length < 1000 ∧ D.nx σ (upd H3 a (.ins C dx' (putF f z fs')))

section
variable {X : Cx} {o e value : Expr} {f : Str} {pos pos' tpos : Pos} {ta tv : TE}
theorem pe_fld (he : PE X e ta) (hb : attributeBase e f X.env (eval e X.env) = eval e X.env) : PE X (.Attribute e f pos) (tFld X.K ta f) := by
  intro pins s σ H Q I h
  refine attr_of hb (thn (he pins s σ H _ I h) fun u s1 ⟨x, H1, I1, rx, a, C, dx, fs, v, ex, ea, c, n, l, q⟩ => ?_)
  subst ex
  obtain rfl : u = Value.ref a := rx
  exact getattr_ok I1 ea c n l fun u' s2 I2 ru => ⟨v, H1, I2, ru, q⟩
theorem ps_fld (ha : PE X o ta) (hv : PE X value tv) (hs : swapsWith value (some (.Attribute o f pos')) pos.line X.env = pure false) : PS X (.Assign [.Attribute o f pos'] value pos) (sFld X.K ta tv f) := by
  intro pins s σ H D I h
  refine plainObj_wpAny_Assign_Attribute (thn (hv pins s σ H _ I h) fun u s1 ⟨y, H1, I1, ry, q⟩ => thn (ha pins s1 σ H1 _ I1 q) fun ov s2 ⟨x, H2, I2, rx, a, C, dx, fs, ex, ea, c, n, l, q2⟩ => ?_) hs
  subst ex
  obtain rfl : ov = Value.ref a := rx
  exact setattr_ok I2 ea c n l ry fun s3 I3 => ⟨σ, _, I3, q2⟩
theorem ps_fldaug {op : Operator} {rd : V → V → Hp → VK → Prop} (ha : PE X o ta) (hv : PE X value tv) (hop : InOp X op rd) : PS X (.AugAssign (.Attribute o f tpos) op value pos) (sFldAug X.K ta tv rd f) := by
  intro pins s σ H D I h
  refine wpAny_AugAssign_AttributeAny (thn (ha pins s σ H _ I h) fun ov s1 ⟨x, H1, I1, rx, a, C, dx, fs, v, ex, ea, c, n, l, q⟩ => ?_)
  subst ex
  obtain rfl : ov = Value.ref a := rx
  refine getattr_ok I1 ea c n l fun u s2 I2 ru => thn (hv pins s2 σ H1 _ I2 q) fun w3 s3 ⟨y, H2, I3, ry, q3⟩ => thn (hop pins s3 σ H2 v y u w3 _ I3 ru ry q3) fun w4 s4 ⟨z, H3, I4, rz, dx', fs', ea', l', q4⟩ => ?_
  exact setattr_ok I4 ea' c n l' rz fun s5 I5 => ⟨σ, _, I5, q4⟩
def rAdd : V → V → Hp → VK → Prop := fun x y H Q => ∃ i j, x = .int i ∧ y = .int j ∧ Q (.int (i + j)) H
def rSub : V → V → Hp → VK → Prop := fun x y H Q => ∃ i j, x = .int i ∧ y = .int j ∧ Q (.int (i - j)) H
theorem in_add : InOp X .Add rAdd := by
  rintro pins s σ H x y u v Q I rx ry ⟨i, j, rfl, rfl, q⟩
  obtain ⟨t, rfl⟩ := (show ∃ t, u = Value.int i t from rx)
  obtain ⟨t', rfl⟩ := (show ∃ t', v = Value.int j t' from ry)
  exact PyProof.Rows.iadd_int ⟨.int (i + j), H, I.tok _, ⟨_, rfl⟩, q⟩
theorem in_sub : InOp X .Sub rSub := by
  rintro pins s σ H x y u v Q I rx ry ⟨i, j, rfl, rfl, q⟩
  obtain ⟨t, rfl⟩ := (show ∃ t, u = Value.int i t from rx)
  obtain ⟨t', rfl⟩ := (show ∃ t', v = Value.int j t' from ry)
  exact PyProof.Rows.isub_int ⟨.int (i - j), H, I.tok _, ⟨_, rfl⟩, q⟩

/-- what is between an instance and its method: the tree of a method call -/
theorem methcall_of {pl : Sem Bool} {m : Str} {apos : Pos} {args : List Expr} {pins : List (Addr × Obj)} {s : Shared} {σ : St} {H : Hp} {Q : Value → Shared → Prop} {te : TE} (he : PE X e te) (I : Inv X pins σ H s)
    (h : te σ H fun x H1 => ∃ a C dx fs g, x = .ref a ∧ H1 a = some (.ins C dx fs) ∧ Cls X.K C ∧ Meth X.K C m g ∧ fs.lookup m = none ∧
      ∀ s1, Inv X pins σ H1 s1 → wpAny (model X.prog X.w) X.A (callWith pos (.ref g) [.ref a] (backTo pos (starEach args X.env)) (backToKw pos (keywordEach [] X.env))) Q X.xe s1)
    (ht : eval (.Call (.Attribute e m apos) args [] pos) X.env = (do
      let ov ← eval e X.env
      standAt apos.atName
      let (f, first) ← holding [ov] (getMethod ov m pl)
      callWith pos f first (backTo pos (starEach args X.env)) (backToKw pos (keywordEach [] X.env)))) :
    wpAny (model X.prog X.w) X.A (eval (.Call (.Attribute e m apos) args [] pos) X.env) Q X.xe s := by
  refine PySem.W.methodCall_KW (pl := pl) (thn (he pins s σ H _ I h) fun u s1 ⟨x, H1, I1, rx, a, C, dx, fs, g, ex, ea, c, k, l, q⟩ => ?_) ht
  subst ex
  obtain rfl : u = Value.ref a := rx
  exact getmeth_ok I1 ea c k l (q s1 I1)
end

section
variable {X : Cx} {pins : List (Addr × Obj)} {σ : St} {H : Hp} {s : Shared} {A : Around} {E : Value → Shared → Prop} {Q : Value → Shared → Prop} {c : Value} {b : Bool}
/-- the type of a value, as the fragment's deciders take it; for an instance its class -/
inductive TyOf (K : PySem.W.Frag) (H : Hp) : V → Value → Prop where
  | non : TyOf K H .non (.type "NoneType")
  | bl (x : Bool) : TyOf K H (.bl x) (.type "bool")
  | int (i : Int) : TyOf K H (.int i) (.type "int")
  | str (x : Str) : TyOf K H (.str x) (.type "str")
  | flt (x : UInt64) : TyOf K H (.flt x) (.type "float")
  | lst {a : Addr} {xs : List V} (e : H a = some (.lst xs)) : TyOf K H (.ref a) (.type "list")
  | frz {a : Addr} {o : Obj} {xs : List V} (e : H a = some (.frz o (.lst xs))) : TyOf K H (.ref a) (.type "list")
  | tup {a : Addr} {xs : List V} (e : H a = some (.tup xs)) : TyOf K H (.ref a) (.type "tuple")
  | dK {a : Addr} {kvs : List (Key × V)} (e : H a = some (.dK kvs)) : TyOf K H (.ref a) (.type "dict")
  | dT {a : Addr} {kvs : List (List Key × V)} (e : H a = some (.dT kvs)) : TyOf K H (.ref a) (.type "dict")
  | ins {a C dx : Addr} {fs : List (Str × V)} (e : H a = some (.ins C dx fs)) (cl : Cls K C) (ha : PySem.W.findIn K (.ref C) "__class__" = some (some (.builtin "object.__class__")))
      (hn : PySem.W.specialIn K (.builtin "object.__class__") "__get__" = some (some (.builtin "getset_descriptor.__get__"))) (htk : PySem.W.takesIn K (.builtin "object.__class__") = some true)
      (hm : PySem.W.mroIn K C (.type "object") = some true) : TyOf K H (.ref a) (.ref C)
end
end L2

namespace L2
open PySem PySem.Spec PyProof.Rows

structure Room (k : Nat) (A : Around) : Prop where
  hd : A.handled = none
  dp : A.depth + 3 * k + 5 < recursionLimit
  un : A.units + 16 * k + 200 < cLine
theorem Room.mono {j k : Nat} {A : Around} (r : Room k A) (h : j ≤ k) : Room j A := ⟨r.hd, by have := r.dp; omega, by have := r.un; omega⟩
theorem Room.deeper {k : Nat} {A : Around} (r : Room (k + 1) A) (env : Env) : Room k (A.deeper env) :=
  ⟨r.hd, by have := r.dp; show A.depth + 1 + 3 * k + 5 < _; omega, by have := r.un; show A.units + 3 + 16 * k + 200 < _; omega⟩
theorem make_depth {A : Around} {C : Addr} {us : List Value} {kw : List (Str × Value)} : (A.under (.builtin "type.__call__" ⟨.ref C :: us, kw⟩)).depth = A.depth + 1 := by
  first | rfl | simp [Around.under, Code.weight, Code.isCreation, Code.isGuard, Code.isCaller, Code.frames, Code.isFrame, guardIds]
theorem make_units {A : Around} {C : Addr} {us : List Value} {kw : List (Str × Value)} : (A.under (.builtin "type.__call__" ⟨.ref C :: us, kw⟩)).units = A.units + 1 := by
  first | rfl | simp [Around.under, Code.cUnits, Code.frames, Code.isFrame]
theorem Room.make {k : Nat} {A : Around} (r : Room (k + 1) A) (C : Addr) (us : List Value) (kw : List (Str × Value)) : Room k (A.under (.builtin "type.__call__" ⟨.ref C :: us, kw⟩)) :=
  ⟨r.hd, by have := r.dp; rw [make_depth]; omega, by have := r.un; rw [make_units]; omega⟩
theorem Room.depth {k : Nat} {A : Around} (r : Room k A) : A.depth < recursionLimit := by have := r.dp; omega
theorem Room.units {k : Nat} {A : Around} (r : Room k A) : A.units + 64 < cLine := by have := r.un; omega
def tNil : TA := fun _ H Q => Q [] H
def tCons (ta : TE) (tr : TA) : TA := fun σ H Q => ta σ H fun x H1 => tr σ H1 fun xs H2 => Q (x :: xs) H2
section
variable {X : Cx} {e : Expr} {es : List Expr} {te : TE} {t : TA} {pos : Pos}
theorem pa_nil : PA X [] tNil := fun _ _ _ _ H Q I h => Calls.spliced_nil ⟨[], H, I, .nil, h⟩
theorem pa_cons (ha : PE X e te) (hr : PA X es t) (hs : starEach (e :: es) X.env = (false, eval e X.env) :: starEach es X.env := by rfl) : PA X (e :: es) (tCons te t) := by
  intro pos pins s σ H Q I h
  rw [hs]
  show wpAny _ _ (spliced ((false, eval e X.env) :: backTo pos (starEach es X.env))) _ _ s
  refine Calls.spliced_cons (thn (ha pins s σ H _ I h) fun u s1 ⟨x, H1, I1, r1, q1⟩ => ?_)
  exact thn (hr pos pins s1 σ H1 _ I1 q1) fun us s2 ⟨xs, H2, I2, r2, q2⟩ => ⟨x :: xs, H2, I2, .cons r1 r2, q2⟩

/-- a tuple, a list of written items -/
def tTup (t : TA) : TE := fun σ H Q => t σ H fun xs H1 => xs.length ≤ sizeLine ∧ ∀ p, H1 p = none → Q (.ref p) (upd H1 p (.tup xs))
def tLst (t : TA) : TE := fun σ H Q => t σ H fun xs H1 => xs.length ≤ sizeLine ∧ ∀ p, H1 p = none → Q (.ref p) (upd H1 p (.lst xs))
theorem pe_tup {x1} (h : PA X es t) : PE X (.Tuple es x1 pos) (tTup t) := by
  intro pins s σ H Q I hq
  refine wpAny_Tuple_spliced (thn (h pos pins s σ H _ I hq) fun us s1 ⟨xs, H1, I1, r, z, q⟩ => ⟨by rw [← r.length]; exact z, ?_⟩)
  have hf : H1 s1.heap.objs.size = none := I1.hok.fresh (Nat.le_refl _)
  refine ⟨.ref s1.heap.objs.size, upd H1 s1.heap.objs.size (.tup xs), I1.laid (t' := s1.toks) (fun b u e => Heap.get?_push_of_some _ e) (Nat.le_refl _) ?_, rfl, q _ hf⟩
  exact ⟨z, us, r, ⟨_, Heap.get?_push_size _ rfl, rfl, _, rfl⟩⟩
theorem pe_lst (h : PA X es t) : PE X (.List es pos) (tLst t) := by
  intro pins s σ H Q I hq
  refine wpAny_List_spliced (thn (h pos pins s σ H _ I hq) fun us s1 ⟨xs, H1, I1, r, z, q⟩ => ⟨by rw [← r.length]; exact z, ?_⟩)
  have hf : H1 s1.heap.objs.size = none := I1.hok.fresh (Nat.le_refl _)
  refine ⟨.ref s1.heap.objs.size, upd H1 s1.heap.objs.size (.lst xs), I1.laid (t' := s1.toks) (fun b u e => Heap.get?_push_of_some _ e) (Nat.le_refl _) ?_, rfl, q _ hf⟩
  exact ⟨z, us, 0, r, Heap.get?_push_size _ rfl⟩
end

/-- a def's promise: the bound arguments in the parameters' order, the heap, the wanted end, the wanted exception -/
abbrev Sp := List V → Hp → VK → XK → Prop
/-- how an exception lies behind a call (file 08 gives it): the callers' frames, abstract heap and state ahead of the call, the wish, the exception, the state -/
abbrev CXT := List Env → Hp → Shared → XK → Value → Shared → Prop

/-- the state at a call -/
structure Env0 (P : Program) (w : World) (K : PySem.W.Frag) (mg : Str → Option Value) (base : Heap) (A : Around) (outer : List Env) (s : Shared) (H : Hp) : Prop where
  frames : A.frames = some outer
  mod : Mod K mg base
  bs : ∀ b o, base.get? b = some o → s.heap.get? b = some o ∧ H b = none
  bsz : base.objs.size ≤ s.heap.objs.size
  funs : s.heap.FunFrames base outer
  frf : ∀ b ∈ frs outer, H b = none
  hok : HOk P w H s.heap
  bare : AllBare s.gens
/-- a call's end -/
def CE (outer : List Env) (P : Program) (w : World) (H : Hp) (s : Shared) (Q : VK) (u : Value) (s' : Shared) : Prop :=
  ∃ v H', s'.os = s.os ∧ AllBare s'.gens ∧ Un (frs outer) [] H H' s.heap s'.heap ∧ HOk P w H' s'.heap ∧ RelV v u ∧ Q v H'
def CR (CX : CXT) (outer : List Env) (P : Program) (w : World) (H : Hp) (s : Shared) (Q : VK) (E : XK) (r : Result) (s' : Shared) : Prop :=
  match r with
  | .ok (.ret u) => CE outer P w H s Q u s'
  | .ok _ => False
  | .error e => CX outer H s E e s'
structure FnOk (P : Program) (w : World) (K : PySem.W.Frag) (mg : Str → Option Value) (base : Heap) (CX : CXT) (k : Nat) (f : Addr) (fd : FuncData) (ps : List Str) (sp : Sp) : Prop where
  len : ∀ vs H Q E, sp vs H Q E → vs.length = ps.length
  run : ∀ (A : Around) (outer : List Env) (s : Shared) (H : Hp) (args : Args) (us : List Value) (vs : List V) (Q : VK) (E : XK), Room k A → Env0 P w K mg base A outer s H → BindsTo s fd args (ps.zip us) → Vals vs us → sp vs H Q E →
    codeAny (model P w) A (.call (.ref f) args) (CR CX outer P w H s Q E) s
theorem Env0.make {P : Program} {w : World} {K : PySem.W.Frag} {mg : Str → Option Value} {base : Heap} {A : Around} {outer : List Env} {s : Shared} {H : Hp} (e : Env0 P w K mg base A outer s H) (C : Addr) (us : List Value) (kw : List (Str × Value)) :
    Env0 P w K mg base (A.under (.builtin "type.__call__" ⟨.ref C :: us, kw⟩)) outer s H := ⟨by first | exact e.frames | (simpa [Around.under, Code.envs, Code.isFrame, pushEnvs] using e.frames), e.mod, e.bs, e.bsz, e.funs, e.frf, e.hok, e.bare⟩
section
variable {X : Cx} {pins : List (Addr × Obj)} {σ : St} {H : Hp} {s s' : Shared}
/-- from a body: what a callee wants -/
theorem Inv.env0 (I : Inv X pins σ H s) : Env0 X.prog X.w X.K X.mg X.base X.A X.stack s H :=
  ⟨I.ok.frames, I.ok.mod, I.bs, Nat.le_trans I.ok.bsz I.sz, I.stack, I.stkFree, I.hok, I.bare⟩
/-- behind a call -/
theorem Inv.after {Q : VK} {u : Value} (I : Inv X pins σ H s) (h : CE X.stack X.prog X.w H s Q u s') : EP X pins σ Q u s' := by
  obtain ⟨v, H', os, bare, un, hok, r, q⟩ := h
  obtain ⟨hh, g, d, t, os'⟩ := s'
  obtain rfl : os' = s.os := os
  exact ⟨v, H', I.call (h' := hh) (g' := g) (d' := d) (t' := t) (ch := []) un hok bare (fun b z => absurd z (by simp)), r, q⟩
end

/-- f(..): the written arguments, then the defaults dvs; E: what is wanted of an exception -/
def tCall (sp : Sp) (dvs : List V) (E : XK) (t : TA) : TE := fun σ H Q => t σ H fun vs H1 => sp (vs ++ dvs) H1 Q E
/-- o.m(..) of an instance of the class at C -/
def tMeth (C : Addr) (m : Str) (sp : Sp) (dvs : List V) (E : XK) (ta : TE) (t : TA) : TE := fun σ H Q => ta σ H fun x H1 => ∃ a dx fs, x = .ref a ∧ H1 a = some (.ins C dx fs) ∧ fs.lookup m = none ∧
  t σ H1 fun vs H2 => sp (x :: (vs ++ dvs)) H2 Q E
/-- C(..): a new instance and its dict, then __init__ -/
def tMake (C : Addr) (sp : Sp) (dvs : List V) (E : XK) (t : TA) : TE := fun σ H Q => t σ H fun vs H1 => ∀ x dx, H1 x = none → H1 dx = none → dx ≠ x →
  sp (.ref x :: (vs ++ dvs)) (upd (upd H1 dx (.own x)) x (.ins C dx [])) (fun v H2 => v = .non ∧ Q (.ref x) H2) E

/-- how the parameters are bound: us the positional arguments, kw the keywords' values by name, ds the defaults that fill up -/
def Binds (K : PySem.W.Frag) (fd : FuncData) (ps : List Str) (ds : List Value) : Prop :=
  ∀ (s : Shared) (us : List Value), K.In s.heap → (us ++ ds).length = ps.length → BindsTo s fd ⟨us, []⟩ (ps.zip (us ++ ds))
/-- every parameter is given -/
theorem Binds.all {K : PySem.W.Frag} {fd : FuncData} {ps : List Str} (h : ∀ us : List Value, us.length = ps.length → bindArgs fd ⟨us, []⟩ = pure (ps.zip us)) : Binds K fd ps [] := fun s us _ hl => by
  rw [List.append_nil] at hl ⊢
  exact .of_eq (h us hl)

/-- an exception of a callee reaches what this body wants of exceptions -/
def Passes (CX : CXT) (X : Cx) (E : XK) : Prop := ∀ (pins : List (Addr × Obj)) (σ : St) (H : Hp) (s : Shared) (e : Value) (s' : Shared), Inv X pins σ H s → CX X.stack H s E e s' → X.xe e s'

section
variable {X : Cx} {CX : CXT} {k : Nat} {f C : Addr} {fd : FuncData} {ps : List Str} {sp : Sp} {dvs : List V} {ds : List Value} {E : XK} {x m : Str} {p pos apos : Pos} {e o : Expr} {es : List Expr} {ta : TE} {t : TA}

/-- the callee runs -/
theorem run_fn {pins : List (Addr × Obj)} {σ : St} {H : Hp} {s : Shared} {Q : VK} {us : List Value} {vs : List V} (F : FnOk X.prog X.w X.K X.mg X.base CX k f fd ps sp) (hr : Room k X.A) (hb : Binds X.K fd ps ds) (hd : Vals dvs ds) (hx : Passes CX X E)
    (I : Inv X pins σ H s) (r : Vals vs us) (h : sp (vs ++ dvs) H Q E) : wpAny (model X.prog X.w) X.A (call (.ref f) us) (EP X pins σ Q) X.xe s := by
  have r2 : Vals (vs ++ dvs) (us ++ ds) := r.append hd
  have hl : (us ++ ds).length = ps.length := by rw [← r2.length]; exact F.len _ _ _ _ h
  refine wpAny_call (codeAny_mono (F.run X.A X.stack s H ⟨us, []⟩ (us ++ ds) (vs ++ dvs) Q E hr I.env0 (hb s us I.kIn hl) r2 h) fun r s' hq => ?_)
  cases r with
  | error e => exact hx pins σ H s e s' I hq
  | ok fl =>
    cases fl with
    | ret u => exact I.after hq
    | next => exact False.elim hq
    | brk => exact False.elim hq
    | cont => exact False.elim hq

theorem pe_call (F : FnOk X.prog X.w X.K X.mg X.base CX k f fd ps sp) (hr : Room k X.A) (hg : Gl X x) (hm : X.mg x = some (.ref f)) (hk : PySem.W.keepIn X.K (.ref f) = true) (hb : Binds X.K fd ps ds) (hd : Vals dvs ds) (hx : Passes CX X E)
    (ha : PA X (e :: es) t) (hdb : (x == ("__debug__" : Str)) = false := by decide) (he : starEach (e :: es) X.env = (false, eval e X.env) :: starEach es X.env := by rfl) (hpl : (backTo pos (starEach es X.env)).any (·.1) = false := by rfl) :
    PE X (.Call (.Name x p) (e :: es) [] pos) (tCall sp dvs E t) := by
  intro pins s σ H Q I h
  refine wpAny_Call_Name_kw (ld_glob I hg hm ?_ hdb)
  refine PySem.W.callWith_K (h₀ := X.base) I.ok.mod.kin hk (thn (ha pos pins s σ H _ I h) fun us s1 ⟨vs, H1, I1, r, q⟩ => ⟨I1.kIn, ?_⟩) he hpl
  exact run_fn F hr hb hd hx I1 r q
/-- o.m(e, ..) -/
theorem pe_meth {pl : Sem Bool} (he : PE X o ta) (c : Cls X.K C) (hm : Meth X.K C m f) (F : FnOk X.prog X.w X.K X.mg X.base CX k f fd ps sp) (hr : Room k X.A) (hb : Binds X.K fd ps ds) (hd : Vals dvs ds) (hx : Passes CX X E) (ha : PA X (e :: es) t)
    (hst : starEach (e :: es) X.env = (false, eval e X.env) :: starEach es X.env := by rfl) (hpl : (backTo pos (starEach es X.env)).any (·.1) = false := by rfl)
    (ht : eval (.Call (.Attribute o m apos) (e :: es) [] pos) X.env = (do
      let ov ← eval o X.env
      standAt apos.atName
      let (f, first) ← holding [ov] (getMethod ov m pl)
      callWith pos f first (backTo pos (starEach (e :: es) X.env)) (backToKw pos (keywordEach [] X.env))) := by rfl) :
    PE X (.Call (.Attribute o m apos) (e :: es) [] pos) (tMeth C m sp dvs E ta t) := by
  intro pins s σ H Q I h
  refine PySem.W.methodCall_KW (pl := pl) (thn (he pins s σ H _ I h) fun u s1 ⟨x, H1, I1, rx, a, dx, fs, ex, ea, l, q⟩ => ?_) ht
  subst ex
  obtain rfl : u = Value.ref a := rx
  refine getmeth_ok I1 ea c hm l ?_
  refine PySem.W.callWith_K (first := [.ref a]) (h₀ := X.base) I.ok.mod.kin hm.kp (thn (ha pos pins s1 σ H1 _ I1 q) fun us s2 ⟨vs, H2, I2, r, q2⟩ => ⟨I2.kIn, ?_⟩) hst hpl
  exact run_fn (us := .ref a :: us) (vs := .ref a :: vs) F hr hb hd hx I2 (.cons rfl r) q2
/-- o.m() -/
theorem pe_meth0 {pl : Sem Bool} (he : PE X o ta) (c : Cls X.K C) (hm : Meth X.K C m f) (F : FnOk X.prog X.w X.K X.mg X.base CX k f fd ps sp) (hr : Room k X.A) (hb : Binds X.K fd ps ds) (hd : Vals dvs ds) (hx : Passes CX X E)
    (ht : eval (.Call (.Attribute o m apos) [] [] pos) X.env = (do
      let ov ← eval o X.env
      standAt apos.atName
      let (f, first) ← holding [ov] (getMethod ov m pl)
      callWith pos f first (backTo pos (starEach [] X.env)) (backToKw pos (keywordEach [] X.env))) := by rfl) :
    PE X (.Call (.Attribute o m apos) [] [] pos) (tMeth C m sp dvs E ta tNil) := by
  intro pins s σ H Q I h
  refine PySem.W.methodCall_KW (pl := pl) (thn (he pins s σ H _ I h) fun u s1 ⟨x, H1, I1, rx, a, dx, fs, ex, ea, l, q⟩ => ?_) ht
  subst ex
  obtain rfl : u = Value.ref a := rx
  refine getmeth_ok I1 ea c hm l ?_
  exact PySem.W.callWith_K0 (first := [.ref a]) I1.kIn hm.kp (run_fn (us := [.ref a]) (vs := [.ref a]) F hr hb hd hx I1 (.cons rfl .nil) q)

/-- what a class must have to be made -/
structure Mk (K : PySem.W.Frag) (C f : Addr) : Prop where
  makes : PySem.W.makesIn K C = true
  init : PySem.W.findIn K (.ref C) "__init__" = some (some (.ref f))
  fn : PySem.W.isFn K (.ref f) = true
  kp : PySem.W.keepIn K (.ref C) = true

theorem run_make {pins : List (Addr × Obj)} {σ : St} {H : Hp} {s : Shared} {Q : VK} {us : List Value} {vs : List V} (M : Mk X.K C f) (F : FnOk X.prog X.w X.K X.mg X.base CX k f fd ps sp) (hr : Room (k + 1) X.A) (hb : Binds X.K fd ps ds) (hd : Vals dvs ds)
    (hx : Passes CX X E) (I : Inv X pins σ H s) (r : Vals vs us)
    (h : ∀ x dx, H x = none → H dx = none → dx ≠ x → sp (.ref x :: (vs ++ dvs)) (upd (upd H dx (.own x)) x (.ins C dx [])) (fun v H2 => v = .non ∧ Q (.ref x) H2) E) :
    wpAny (model X.prog X.w) X.A (call (.ref C) us) (EP X pins σ Q) X.xe s := by
  have hq := h (s.heap.objs.size + 1) s.heap.objs.size (I.hok.fresh (Nat.le_succ _)) (I.hok.fresh (Nat.le_refl _)) (Nat.ne_of_lt (Nat.lt_succ_self _))
  have I2 := Inv.made (C := C) I
  have r2 : Vals (V.ref (s.heap.objs.size + 1) :: (vs ++ dvs)) (Value.ref (s.heap.objs.size + 1) :: (us ++ ds)) := .cons rfl (r.append hd)
  have hl : (Value.ref (s.heap.objs.size + 1) :: us ++ ds).length = ps.length := by
    have e := r2.length
    rw [F.len _ _ _ _ hq] at e
    exact e.symm
  refine wpAny_call (make_map (f := f) I.kIn M.makes M.init (beq_iff_eq.mp M.fn) (codeAny_mono (F.run _ X.stack _ _ ⟨Value.ref (s.heap.objs.size + 1) :: us, []⟩ (Value.ref (s.heap.objs.size + 1) :: (us ++ ds)) _ _ E (hr.make C us [])
    (I2.env0.make C us []) (hb _ (Value.ref (s.heap.objs.size + 1) :: us) I2.kIn hl) r2 hq) fun r s' hq' => ?_))
  cases r with
  | error e => exact hx pins σ _ _ e s' I2 hq'
  | ok fl =>
    cases fl with
    | ret u =>
      obtain ⟨v, H', I3, rv, ev, q3⟩ := I2.after hq'
      subst ev
      exact ⟨rv, ⟨V.ref (s.heap.objs.size + 1), H', I3, rfl, q3⟩⟩
    | next => exact False.elim hq'
    | brk => exact False.elim hq'
    | cont => exact False.elim hq'
theorem pe_make (M : Mk X.K C f) (F : FnOk X.prog X.w X.K X.mg X.base CX k f fd ps sp) (hr : Room (k + 1) X.A) (hg : Gl X x) (hm : X.mg x = some (.ref C)) (hb : Binds X.K fd ps ds) (hd : Vals dvs ds) (hx : Passes CX X E)
    (ha : PA X (e :: es) t) (hdb : (x == ("__debug__" : Str)) = false := by decide) (he : starEach (e :: es) X.env = (false, eval e X.env) :: starEach es X.env := by rfl) (hpl : (backTo pos (starEach es X.env)).any (·.1) = false := by rfl) :
    PE X (.Call (.Name x p) (e :: es) [] pos) (tMake C sp dvs E t) := by
  intro pins s σ H Q I h
  refine wpAny_Call_Name_kw (ld_glob I hg hm ?_ hdb)
  refine PySem.W.callWith_K (h₀ := X.base) I.ok.mod.kin M.kp (thn (ha pos pins s σ H _ I h) fun us s1 ⟨vs, H1, I1, r, q⟩ => ⟨I1.kIn, ?_⟩) he hpl
  exact run_make M F hr hb hd hx I1 r q
theorem pe_make0 (M : Mk X.K C f) (F : FnOk X.prog X.w X.K X.mg X.base CX k f fd ps sp) (hr : Room (k + 1) X.A) (hg : Gl X x) (hm : X.mg x = some (.ref C)) (hb : Binds X.K fd ps ds) (hd : Vals dvs ds) (hx : Passes CX X E)
    (hdb : (x == ("__debug__" : Str)) = false := by decide) : PE X (.Call (.Name x p) [] [] pos) (tMake C sp dvs E tNil) := by
  intro pins s σ H Q I h
  refine wpAny_Call_Name_kw (ld_glob I hg hm ?_ hdb)
  exact PySem.W.callWith_K0 I.kIn M.kp (run_make (us := []) M F hr hb hd hx I .nil h)
end

section
variable {X : Cx} {CX : CXT} {k : Nat} {f C : Addr} {fd : FuncData} {ps ks : List Str} {sp : Sp} {E : XK} {x m : Str} {p pos apos kpos : Pos} {e o : Expr} {es : List Expr} {kws : List Keyword} {te ta : TE} {t tk : TA} {nm : Option Str}
/-- how a call with keywords binds: g puts the positional values us and the keywords' values ws (names ks) in the parameters' order, defaults among them -/
structure KBinds (K : PySem.W.Frag) (fd : FuncData) (ps ks : List Str) (g : List Value → List Value → List Value) (gV : List V → List V → List V) : Prop where
  to : ∀ (s : Shared) (us ws : List Value), K.In s.heap → (g us ws).length = ps.length → BindsTo s fd ⟨us, ks.zip ws⟩ (ps.zip (g us ws))
  rel : ∀ {vs : List V} {us : List Value} {zs : List V} {ws : List Value}, Vals vs us → Vals zs ws → Vals (gV vs zs) (g us ws)
variable {g : List Value → List Value → List Value} {gV : List V → List V → List V}
end

/-- names: the parameters first -/
structure FnScope (N P : List Str) (sc : Scope) : Prop where
  kind : sc.kind = .function
  co : sc.isCoroutine = false
  gen : sc.isGenerator = false
  nd : N.Nodup
  pre : N.take P.length = P
  par : ∀ x ∈ P, sc.names.lookup x = some .local ∨ sc.names.lookup x = some .cell
  nofree : ∀ y ∈ sc.names, y.2 ≠ .free

theorem bindL_out {kindOf : Str → Option NameKind} {x : Str} : ∀ {binds : List (Str × Value)} {m : Str → Option Value}, (∀ v, (x, v) ∉ binds) → bindL kindOf binds m x = m x
  | [], _, _ => rfl
  | (n, v) :: r, m, h => by
    unfold bindL
    rw [bindL_out fun w hw => h w (List.mem_cons_of_mem _ hw)]
    split
    · have : x ≠ n := by rintro rfl; exact h v List.mem_cons_self
      simp [this]
    · rfl
theorem bindC_out {kindOf : Str → Option NameKind} {x : Str} : ∀ {binds : List (Str × Value)} {m : Str → Option Value}, (∀ v, (x, v) ∉ binds) → bindC kindOf binds m x = m x
  | [], _, _ => rfl
  | (n, v) :: r, m, h => by
    unfold bindC
    rw [bindC_out fun w hw => h w (List.mem_cons_of_mem _ hw)]
    split
    · rfl
    · have : x ≠ n := by rintro rfl; exact h v List.mem_cons_self
      simp [this]
theorem bindL_get {kindOf : Str → Option NameKind} {x : Str} {v : Value} : ∀ {P : List Str} {vs : List Value} {i : Nat} {m : Str → Option Value}, P.Nodup → P[i]? = some x → vs[i]? = some v → kindOf x = some .local →
    bindL kindOf (P.zip vs) m x = some v
  | [], _, _, _, _, h, _, _ => by simp at h
  | _ :: _, [], _, _, _, _, h, _ => by simp at h
  | p :: P, w :: vs, 0, m, nd, h1, h2, hk => by
    simp at h1 h2; subst h1; subst h2
    show bindL kindOf ((p, w) :: P.zip vs) m p = _
    unfold bindL
    rw [bindL_out fun v hv => (List.nodup_cons.mp nd).1 (List.of_mem_zip hv).1, if_pos hk]
    simp
  | p :: P, w :: vs, i + 1, m, nd, h1, h2, hk => by
    show bindL kindOf ((p, w) :: P.zip vs) m x = _
    unfold bindL
    exact bindL_get (i := i) (List.nodup_cons.mp nd).2 (by simpa using h1) (by simpa using h2) hk
theorem bindC_get {kindOf : Str → Option NameKind} {x : Str} {v : Value} : ∀ {P : List Str} {vs : List Value} {i : Nat} {m : Str → Option Value}, P.Nodup → P[i]? = some x → vs[i]? = some v → kindOf x ≠ some .local →
    bindC kindOf (P.zip vs) m x = some v
  | [], _, _, _, _, h, _, _ => by simp at h
  | _ :: _, [], _, _, _, _, h, _ => by simp at h
  | p :: P, w :: vs, 0, m, nd, h1, h2, hk => by
    simp at h1 h2; subst h1; subst h2
    show bindC kindOf ((p, w) :: P.zip vs) m p = _
    unfold bindC
    rw [bindC_out fun v hv => (List.nodup_cons.mp nd).1 (List.of_mem_zip hv).1, if_neg hk]
    simp
  | p :: P, w :: vs, i + 1, m, nd, h1, h2, hk => by
    show bindC kindOf ((p, w) :: P.zip vs) m x = _
    unfold bindC
    exact bindC_get (i := i) (List.nodup_cons.mp nd).2 (by simpa using h1) (by simpa using h2) hk

/-- the names' values at the entry -/
def start (N : List Str) (vs : List V) : St := vs.map some ++ List.replicate (N.length - vs.length) none

/-- the context of a def's body, at its entry; an exception leaves the frame, then lies as CX says -/
def cxOf (CX : CXT) (P : Program) (w : World) (K : PySem.W.Frag) (mg : Str → Option Value) (base : Heap) (N : List Str) (qual : Str) (scope : Scope) (f : Addr) (cd : Value) (A : Around) (outer : List Env) (s : Shared) (H : Hp) (E : XK) : Cx where
  prog := P
  w := w
  K := K
  mg := mg
  base := base
  A := A.deeper (envOfC qual scope s.heap.objs.size f cd)
  N := N
  s_0 := s
  H_0 := H
  env := envOfC qual scope s.heap.objs.size f cd
  outer := outer
  stack := envOfC qual scope s.heap.objs.size f cd :: outer
  ex := []
  calm := true
  fn := fun _ => true
  pn := []
  xe := fun e s' => wpAny (model P w) (A.deeper (envOfC qual scope s.heap.objs.size f cd)) (leaving (envOfC qual scope s.heap.objs.size f cd) e) (fun _ s'' => CX outer H s E e s'') (fun e' s'' => CX outer H s E e' s'') s'

theorem cell_has {sc : Scope} {n : Nat} {x : Str} (h : sc.names.lookup x = some .cell) : ∃ c, (cellsFrom n sc.names []).lookup x = some c := by
  have q := PySem.W.cellsFrom_some sc.names n [] (.inl h)
  exact Option.isSome_iff_exists.mp q

theorem inv_start {CX : CXT} {P : Program} {w : World} {K : PySem.W.Frag} {mg : Str → Option Value} {base : Heap} {N ps : List Str} {qual : Str} {scope : Scope} {f : Addr} {cd : Value} {A : Around} {outer : List Env} {s s1 : Shared} {H : Hp} {E : XK} {us : List Value} {vs : List V}
    (S : FnScope N ps scope) (hd : A.handled = none) (e0 : Env0 P w K mg base A outer s H) (hl : vs.length = ps.length) (r : Vals vs us)
    (x : InCallC s s.heap.objs.size (bindL (envOfC qual scope s.heap.objs.size f cd).kindOf (ps.zip us) fun _ => none) (cellsFrom (s.heap.objs.size + 1) scope.names []) (bindC (envOfC qual scope s.heap.objs.size f cd).kindOf (ps.zip us) fun _ => none) s1) :
    Inv (cxOf CX P w K mg base N qual scope f cd A outer s H E) [] (start N vs) H s1 := by
  have hpl : ps.length ≤ N.length := by have := congrArg List.length S.pre; rw [List.length_take] at this; omega
  obtain ⟨h1, tk, rfl, hk⟩ := x.done
  have noA : ∀ b : Addr, b ∉ (cxOf CX P w K mg base N qual scope f cd A outer s H E).ex := fun b z => absurd (show b ∈ ([] : List Addr) from z) (by simp)
  refine ⟨⟨e0.mod, S.kind, rfl, rfl, Nat.le_refl _, fun y z c h1 h2 => ?_, fun y hy => ?_, fun y c _ h => ?_, fun _ => hd, Around.frames_deeper e0.frames, .inr ⟨rfl, rfl⟩, fun b z => absurd z (noA b), e0.bs, e0.bsz, fun b _ _ => noA b, fun b z => absurd z (noA b), e0.funs, e0.frf⟩,
    rfl, e0.bare, Un.kept hk, ⟨_, x.toInCall.ns, fun i y v h1 h2 h3 => ?_⟩, fun y c h => ⟨_, x.cell y c h⟩, e0.hok.fresh (Nat.le_refl _), fun y c h => ?_, fun p hp => absurd (show p ∈ ([] : List (Addr × Obj)) from hp) (by simp), e0.hok.kept hk, ?_⟩
  · exact name_of_addr x.apart (PySem.mem_of_lookup h1) (PySem.mem_of_lookup h2)
  · have hy : scope.names.lookup y = some .cell ∨ scope.names.lookup y = some .free := hy
    rcases hy with hy | hy
    · exact cell_has hy
    · exact absurd rfl (S.nofree _ (PySem.mem_of_lookup hy))
  · exact Nat.le_of_lt (x.above y c (PySem.mem_of_lookup h))
  · have hi : i < vs.length := by
      unfold start at h2
      by_cases hi : i < vs.length
      · exact hi
      · rw [List.getElem?_append_right (by simpa using hi)] at h2
        rw [List.getElem?_replicate] at h2
        split at h2 <;> cases h2
    have ha : vs[i]? = some v := by
      unfold start at h2
      rw [List.getElem?_append_left (by simpa using hi), List.getElem?_map] at h2
      cases e : vs[i]? with
      | none => rw [e] at h2; cases h2
      | some a => rw [e] at h2; cases h2; rfl
    obtain ⟨u, hu, rv⟩ := r.get ha
    have hp : ps[i]? = some y := by
      rw [← S.pre, List.getElem?_take_of_lt (by omega)]; exact h1
    have ndP : ps.Nodup := by rw [← S.pre]; exact S.nd.sublist (List.take_sublist _ _)
    refine ⟨u, rv, ?_⟩
    rcases S.par y (List.mem_of_getElem? hp) with k | k
    · exact .inl ⟨k, bindL_get ndP hp hu k⟩
    · obtain ⟨c, e⟩ := cell_has (n := s.heap.objs.size + 1) k
      refine .inr ⟨.inl k, c, e, ?_⟩
      have q := x.cell y c e
      rw [bindC_get ndP hp hu (by show scope.names.lookup y ≠ _; rw [k]; decide)] at q
      exact q
  · exact e0.hok.fresh (Nat.le_of_lt (x.above y c (PySem.mem_of_lookup h)))
  · unfold start
    show _ = N.length
    rw [List.length_append, List.length_map, List.length_replicate]
    omega

/-- THE RULE: a def (or a method) of the text, by its body. The body's reading t is chosen for each entry; it is run at the parameters' values -/
theorem fn_of {CX : CXT} {P : Program} {w : World} {K : PySem.W.Frag} {mg : Str → Option Value} {base : Heap} {k : Nat} {f : Addr} {name qual : Str} {params : Arguments} {body : List Stmt} {scope : Scope} {dV kV doc pm cdv ct oc : Value} {an od : Option Addr}
    {osl : Array (Option Value)} {N ps : List Str} {sp : Sp} (lk : K.lookup f = some ⟨oc, od, .func (PySem.W.fnOf name qual params body scope dV kV doc pm an cdv ct), osl⟩) (hcd : PySem.W.codeIn K cdv qual = true) (S : FnScope N ps scope)
    (len : ∀ vs H Q E, sp vs H Q E → vs.length = ps.length)
    (hbody : ∀ (A : Around) (outer : List Env) (s : Shared) (H : Hp) (vs : List V) (Q : VK) (E : XK), Room k (A.deeper (envOfC qual scope s.heap.objs.size f cdv)) → sp vs H Q E →
      ∃ t, PSs (cxOf CX P w K mg base N qual scope f cdv A outer s H E) body t ∧ t { nx := fun _ H' => Q .non H', rt := Q } (start N vs) H) :
    FnOk P w K mg base CX (k + 1) f (PySem.W.fnOf name qual params body scope dV kV doc pm an cdv ct) ps sp := by
  refine ⟨len, fun A outer s H args us vs Q E hr e0 hb r hsp => ?_⟩
  have hl := len _ _ _ _ hsp
  have KX : K.In s.heap := e0.mod.kin.keeps fun b o e => (e0.bs b o e).1
  have lim : s.heap.NoLimit := e0.mod.nolimit.keeps fun b o e => (e0.bs b o e).1
  have hkind : ∀ y ∈ ps.zip us, scope.names.lookup y.1 = some .local ∨ (scope.names.lookup y.1 = some .cell ∧ ((cellsFrom (s.heap.objs.size + 1) scope.names []).lookup y.1).isSome = true) := fun ⟨n, v⟩ hy => by
    rcases S.par n (List.of_mem_zip hy).1 with q | q
    · exact .inl q
    · exact .inr ⟨q, PySem.W.cellsFrom_some _ _ _ (.inl q)⟩
  refine codeAny_call_function hr.depth (KX _ _ lk) rfl S.co S.gen rfl (PySem.W.codeRec_of KX hcd) (hb _ _ _ _ ?_)
  refine wpAny_newFunctionEnv_cells S.kind hkind fun env he s1 x => ?_
  subst he
  refine ⟨lim.keeps x.toInCall.keep, codeAny_func ?_⟩
  obtain ⟨t, ht, hq⟩ := hbody A outer s H vs Q E (hr.deeper _) hsp
  have I : Inv (cxOf CX P w K mg base N qual scope f cdv A outer s H E) [] (start N vs) H s1 := inv_start S hr.hd e0 hl r x
  refine wpAny_mono (ht [] s1 (start N vs) H _ I hq) (fun fl s' hs => ?_) fun e s' hs => hs
  have fin : ∀ {σ' : St} {H' : Hp} {v : V} {u : Value}, Inv (cxOf CX P w K mg base N qual scope f cdv A outer s H E) [] σ' H' s' → RelV v u → Q v H' → CE outer P w H s Q u s' :=
    fun {σ' H' v u} J rv q => ⟨v, H', J.os, J.bare, J.base, J.hok, rv, q⟩
  cases fl with
  | ret u =>
    obtain ⟨v, σ', H', J, rv, q⟩ := hs
    exact fin J rv q
  | next =>
    obtain ⟨σ', H', J, q⟩ := hs
    exact fin (v := V.non) (u := Value.none) J rfl q
  | brk =>
    obtain ⟨_, _, _, q⟩ := hs
    exact False.elim q
  | cont =>
    obtain ⟨_, _, _, q⟩ := hs
    exact False.elim q
end L2

namespace L2
open PySem PySem.Spec PyProof.Rows
section
variable {X : Cx} {x : Str} {p pos : Pos} {e : Expr} {es : List Expr} {t : TA} {id T : String} {r : List V → Hp → VK → Prop}

def tCB (r : List V → Hp → VK → Prop) (t : TA) : TE := fun σ H Q => t σ H fun vs H1 => r vs H1 Q
/-- f(e, ..), f a built-in function -/
theorem pe_callB (hc : CallR X (.builtin id) r) (hg : Gl X x) (hm : X.mg x = none) (hv : bootBuiltins x = some (.builtin id)) (ha : PA X (e :: es) t) (hn : x ≠ "__name__" := by decide) (hdb : (x == ("__debug__" : Str)) = false := by decide)
    (he : starEach (e :: es) X.env = (false, eval e X.env) :: starEach es X.env := by rfl) (hpl : (backTo pos (starEach es X.env)).any (·.1) = false := by rfl) : PE X (.Call (.Name x p) (e :: es) [] pos) (tCB r t) := by
  intro pins s σ H Q I h
  refine wpAny_Call_Name_kw (ld_blt I hg hm hv ?_ hn hdb)
  exact PyProof.Rows.callWith_builtin1 (thn (ha pos pins s σ H _ I h) fun us s1 ⟨vs, H1, I1, r1, q1⟩ => hc pins s1 σ H1 vs us Q I1 r1 q1) he hpl
/-- T(e, ..), T a built-in type -/
theorem pe_callTy (hc : CallR X (.type T) r) (hg : Gl X x) (hm : X.mg x = none) (hv : bootBuiltins x = some (.type T)) (ha : PA X (e :: es) t) (hn : x ≠ "__name__" := by decide) (hdb : (x == ("__debug__" : Str)) = false := by decide)
    (he : starEach (e :: es) X.env = (false, eval e X.env) :: starEach es X.env := by rfl) (hpl : (backTo pos (starEach es X.env)).any (·.1) = false := by rfl) : PE X (.Call (.Name x p) (e :: es) [] pos) (tCB r t) := by
  intro pins s σ H Q I h
  refine wpAny_Call_Name_kw (ld_blt I hg hm hv ?_ hn hdb)
  exact PyProof.Rows.callWith_type1 (thn (ha pos pins s σ H _ I h) fun us s1 ⟨vs, H1, I1, r1, q1⟩ => hc pins s1 σ H1 vs us Q I1 r1 q1) he hpl
end
end L2

namespace HT
open PySem PyProof.Rows

/-- t < u of tuples of ints -/
def lexLt : List Int → List Int → Bool
  | [], [] => false
  | [], _ :: _ => true
  | _ :: _, [] => false
  | x :: xs, y :: ys => if x = y then lexLt xs ys else decide (x < y)
theorem lexLt_cons (x y : Int) (xs ys : List Int) : lexLt (x :: xs) (y :: ys) = if x = y then lexLt xs ys else decide (x < y) := rfl
theorem lexLt_nil_nil : lexLt [] [] = false := rfl
theorem lexLt_nil_cons (y : Int) (ys : List Int) : lexLt [] (y :: ys) = true := rfl
theorem lexLt_cons_nil (x : Int) (xs : List Int) : lexLt (x :: xs) [] = false := rfl

theorem eqAt_int (A : Around) (s : Shared) (a : Int) (t : Tok) (c : Int) (u : Tok) : ∃ e, SeqAt.EqAt A s (.int a t) (.int c u) e ∧ (e = true ↔ a = c) :=
  ⟨(a == c), SeqAt.EqAt.int_int a t c u, by simp⟩
theorem rcLt_int (A : Around) (s : Shared) (a : Int) (t : Tok) (c : Int) (u : Tok) (prog : Program) (w : World) (E : Value → Shared → Prop) (Q : Value → Shared → Prop) (h : Q (.bool (decide (a < c))) s) :
    wpAny (model prog w) A (richCompare .Lt (.int a t) (.int c u)) Q E s :=
  (PyProof.Rows.lt_int h : wpAny (model prog w) A (compareOp .Lt (.int a t) (.int c u)) Q E s)

section
open PySem.SeqAt
open PySem.AutoSeq1 (wpAny_loadPart')
open PySem.MeetsSeq PySem.MeetsSeq2 PySem.MeetsSeq3

theorem tuple_lt_ints (l b : Addr) (items items2 : Array Value) (n n2 : Nat) (dd dd2 : Option Addr) (sl sl2 : Array (Option Value)) (ns ms : List Int) (hi : IntsAre items.toList ns) (hj : IntsAre items2.toList ms) :
    Meets (Builtin.«tuple.__lt__» ⟨[.ref l, .ref b], []⟩)
      (fun _ R s => s.heap.get? l = some { cls := .type "tuple", dict := dd, data := .seq items n, slots := sl } ∧ s.heap.get? b = some { cls := .type "tuple", dict := dd2, data := .seq items2 n2, slots := sl2 } ∧
        R (.ok (.ret (.bool (lexLt ns ms)))) s) :=
  .of_wp fun prog w A R s h => by
    obtain ⟨hp, g, d, tk, os⟩ := s; obtain ⟨hl, hb, h⟩ := h
    have f2 := AutoSeq1.sub_tuple_tuple
    have z1 : items.size = ns.length := by rw [← hi.length]; simp
    have z2 : items2.size = ms.length := by rw [← hj.length]; simp
    wp_walk using wpAny_loadPart' hl, wpAny_loadPart' hb, wpAny_forIn_list _ (fun rest b s' => b.1 = none ∧ s' = ⟨hp, g, d, tk, os⟩ ∧ ∃ (vs ws : List Value) (ns' ms' : List Int), rest = vs.zip ws ∧
      IntsAre vs ns' ∧ IntsAre ws ms' ∧ ns'.length + items2.size = ms'.length + items.size ∧ R (.ok (.ret (.bool (lexLt ns' ms')))) ⟨hp, g, d, tk, os⟩) _
    case turn =>
      rintro ⟨y, x⟩ rest b s' ⟨hb', rfl, vs, ws, ns', ms', hz, hvi, hwi, hlen, hR⟩
      cases hvi with
      | nil => rw [List.zip_nil_left] at hz; cases hz
      | cons a t hvi' =>
        cases hwi with
        | nil => rw [List.zip_nil_right] at hz; cases hz
        | cons c u hwi' =>
          rw [List.zip_cons_cons] at hz
          injection hz with hyx hrest
          injection hyx with hy hx
          subst hy hx
          rw [lexLt_cons] at hR
          simp only [List.length_cons] at hlen
          obtain ⟨e, he, hiff⟩ := eqAt_int A.in1 ⟨hp, g, d, tk, os⟩ a t c u
          refine wpAny_bind (he prog w _ _ ?_)
          cases e with
          | true =>
            rw [if_pos (hiff.mp rfl)] at hR
            wp_walk
            exact ⟨rfl, rfl, _, _, _, _, hrest, hvi', hwi', by omega, hR⟩
          | false =>
            rw [if_neg (fun q => absurd (hiff.mpr q) Bool.false_ne_true)] at hR
            have hri := rcLt_int A.in1 ⟨hp, g, d, tk, os⟩ a t c u prog w
            wp_walk using hri
            exact ⟨_, rfl, by simpa using hR⟩
    case fin =>
      rintro ⟨b1, b2⟩ s' ⟨hb', rfl, vs, ws, ns', ms', hz, hvi, hwi, hlen, hR⟩
      simp only at hb'
      subst hb'
      have hv : lexLt ns' ms' = decide (items.size < items2.size) := by
        cases hvi with
        | nil =>
          cases hwi with
          | nil =>
            simp only [List.length_nil] at hlen
            rw [lexLt_nil_nil]
            exact (decide_eq_false (by omega)).symm
          | cons c u hw =>
            simp only [List.length_nil, List.length_cons] at hlen
            rw [lexLt_nil_cons]
            exact (decide_eq_true (by omega)).symm
        | cons a t hv =>
          cases hwi with
          | nil =>
            simp only [List.length_nil, List.length_cons] at hlen
            rw [lexLt_cons_nil]
            exact (decide_eq_false (by omega)).symm
          | cons c u hw =>
            rw [List.zip_cons_cons] at hz
            cases hz
      rw [hv] at hR
      wp_walk
      exact ⟨_, rfl, by simpa [Builtin.Tuple.tupleCompareSizes] using hR⟩
    case h =>
      exact ⟨rfl, rfl, items.toList, items2.toList, ns, ms, rfl, hi, hj, by omega, h⟩
end

section
variable {prog : Program} {w : World} {A : Around} {E : Value → Shared → Prop} {s : Shared}

theorem lt_tupInts {l b : Addr} {items items2 : Array Value} {ns ms : List Int} {Q : Value → Shared → Prop} (hl : IsTup s.heap l items) (hb : IsTup s.heap b items2) (hi : IntsAre items.toList ns) (hj : IntsAre items2.toList ms)
    (hu : A.units < cLine) (h : Q (.bool (lexLt ns ms)) s) : wpAny (model prog w) A (compareOp .Lt (.ref l) (.ref b)) Q E s := by
  obtain ⟨⟨cls, dd, data, sl⟩, ho, hc, n, hd⟩ := id hl
  obtain ⟨⟨cls2, dd2, data2, sl2⟩, ho2, hc2, n2, hd2⟩ := id hb
  simp only at hc hd hc2 hd2
  subst hc hd hc2 hd2
  exact richCompare_meets_room (op := .Lt) ⟨_, ho, rfl⟩ ⟨_, ho2, rfl⟩ PySem.F.slot_tuple_lt PySem.F.entry_tuple_lt (PySem.F.args_tuple_lt_2 _ _) (tuple_lt_ints l b items items2 n n2 dd dd2 sl sl2 ns ms hi hj)
    ⟨ho, ho2, show Value.bool (lexLt ns ms) ≠ Value.notImplemented ∧ Q (.bool (lexLt ns ms)) s from ⟨(fun x => nomatch x), h⟩⟩ hu

/-- a slice's bound as a place among n (d where it is left out) -/
def sIx (n d : Nat) : Option Int → Nat
  | none => d
  | some v => if v < 0 then (v + (n : Int)).toNat else min v.toNat n
theorem sIx_none (n d : Nat) : sIx n d none = d := rfl
theorem sIx_nat (n d k : Nat) : sIx n d (some (k : Int)) = min k n := by
  show (if (k : Int) < 0 then ((k : Int) + (n : Int)).toNat else min (k : Int).toNat n) = min k n
  rw [if_neg (by omega), Int.toNat_natCast]
end
end HT

namespace L2
open PySem PySem.Spec PyProof.Rows

abbrev TO := St → Hp → (Option Int → Hp → Prop) → Prop
/-- a slice's part (left out, or an int) -/
def PO (X : Cx) (e : Option Expr) (t : TO) : Prop :=
  ∀ (pins : List (Addr × Obj)) (s : Shared) (σ : St) (H : Hp) (Q : Option Int → Hp → Prop), Inv X pins σ H s → t σ H Q →
    wpAny (model X.prog X.w) X.A (evalPart e X.env) (fun u s' => ∃ o H', Inv X pins σ H' s' ∧ IsPart u o ∧ Q o H') X.xe s
def tNoPart : TO := fun _ H Q => Q none H
def tPart (t : TE) : TO := fun σ H Q => t σ H fun x H1 => ∃ i, x = .int i ∧ Q (some i) H1

section
variable {X : Cx} {e : Expr} {te : TE} {lo hi : Option Expr} {tl th : TO} {pos p2 : Pos}

theorem po_none : PO X none tNoPart := by
  intro pins s σ H Q I h
  rw [evalPart_none]
  exact wpAny_pure ⟨none, H, I, .none, h⟩
theorem po_some (h : PE X e te) : PO X (some e) (tPart te) := by
  intro pins s σ H Q I hw
  rw [evalPart_some]
  refine thn (h pins s σ H _ I hw) fun u s1 ⟨x, H1, I1, r1, q1⟩ => ?_
  obtain ⟨i, rfl, q⟩ := q1
  obtain ⟨t, rfl⟩ := r1
  exact ⟨some i, H1, I1, .int i t, q⟩

/-- what a slice of a value is, by values: the slice object stands at sl -/
def SlR (X : Cx) (r : V → Option Int → Option Int → Hp → VK → Prop) : Prop :=
  ∀ (pins : List (Addr × Obj)) (s : Shared) (σ : St) (H : Hp) (x : V) (v vl vu : Value) (lo hi : Option Int) (sl : Addr) (Q : VK), Inv X pins σ H s → RelV x v → s.heap.IsSliceOf sl vl vu .none → IsPart vl lo → IsPart vu hi → r x lo hi H Q →
    ∃ T id, typeLookup (.type T) "__getitem__" = pure (some (.builtin id)) ∧ s.TypeIs v T ∧ wpAny (model X.prog X.w) X.A (getItem v (.ref sl)) (EP X pins σ Q) X.xe s
def tSl (r : V → Option Int → Option Int → Hp → VK → Prop) (te : TE) (tl th : TO) : TE := fun σ H Q => te σ H fun x H1 => tl σ H1 fun l H2 => th σ H2 fun u H3 => r x l u H3 Q
/-- a[lo:hi], any a -/
theorem pe_slice {r : V → Option Int → Option Int → Hp → VK → Prop} (hr : SlR X r) (he : PE X e te) (hl : PO X lo tl) (hu : PO X hi th) : PE X (.Subscript e (.Slice lo hi none p2) pos) (tSl r te tl th) := by
  intro pins s σ H Q I h
  refine Subscript_ (thn (he pins s σ H _ I h) fun v s1 ⟨x, H1, I1, r1, q1⟩ => ?_)
  refine wpAny_Slice (thn (hl pins s1 σ H1 _ I1 q1) fun vl s2 ⟨l, H2, I2, pl, q2⟩ => thn (hu pins s2 σ H2 _ I2 q2) fun vu s3 ⟨u, H3, I3, pu, q3⟩ => ?_)
  rw [evalPart_none]
  refine wpAny_pure ?_
  have I4 : Inv X pins σ H3 { s3 with heap := s3.heap.push { cls := .type "slice", data := .fields #[vl, vu, .none] } } := I3.kept (t' := s3.toks) fun b ob q => Heap.get?_push_of_some _ q
  obtain ⟨T, id, hT, ht, hg⟩ := hr pins { s3 with heap := s3.heap.push { cls := .type "slice", data := .fields #[vl, vu, .none] } } σ H3 x v vl vu l u s3.heap.objs.size Q I4 r1 (Heap.IsSliceOf.new ..) pl pu q3
  show wpAny (model X.prog X.w) X.A (subscriptTail e (.Slice lo hi none p2) v (.ref s3.heap.objs.size)) (EP X pins σ Q) X.xe { s3 with heap := s3.heap.push { cls := .type "slice", data := .fields #[vl, vu, .none] } }
  exact tail_any (ops := [.ref s3.heap.objs.size, v]) ht hT hg (by with_unfolding_all rfl)

/-- the items of xs[lo:hi] -/
def cutV (xs : List V) (lo hi : Option Int) : List V := (xs.drop (HT.sIx xs.length 0 lo)).take (HT.sIx xs.length xs.length hi - HT.sIx xs.length 0 lo)
theorem cutV_length (xs : List V) (lo hi : Option Int) : (cutV xs lo hi).length ≤ xs.length := by
  unfold cutV
  rw [List.length_take, List.length_drop]
  omega
end
end L2

namespace L2
open PySem PySem.Spec PyProof.Rows

/-- the place that an index of any sign means -/
def ixN (n : Nat) (i : Int) : Option Nat := if 0 ≤ i then (if i < n then some i.toNat else none) else if -(n : Int) ≤ i then some (i + n).toNat else none
def atI {α : Type} (xs : List α) (i : Int) : Option α := (ixN xs.length i).bind fun j => xs[j]?
theorem ixN_seq {n : Nat} {i : Int} {j : Nat} (h : ixN n i = some j) : seqIndex? i n = some j ∧ j < n ∧ -(n : Int) ≤ i ∧ i < n := by
  unfold ixN at h
  by_cases h0 : 0 ≤ i
  · rw [if_pos h0] at h
    by_cases h1 : i < n
    · rw [if_pos h1] at h
      have e : i.toNat = j := Option.some.inj h
      exact ⟨by rw [seqIndex_of h0 h1, e], by omega, by omega, h1⟩
    · rw [if_neg h1] at h; cases h
  · rw [if_neg h0] at h
    by_cases h1 : -(n : Int) ≤ i
    · rw [if_pos h1] at h
      have e : (i + n).toNat = j := Option.some.inj h
      exact ⟨by rw [seqIndex_neg (by omega) h1, e], by omega, h1, by omega⟩
    · rw [if_neg h1] at h; cases h
theorem atI_get {α : Type} {xs : List α} {i : Int} {v : α} (h : atI xs i = some v) : ∃ j, seqIndex? i xs.length = some j ∧ xs[j]? = some v ∧ j < xs.length ∧ -(xs.length : Int) ≤ i ∧ i < xs.length := by
  unfold atI at h
  cases e : ixN xs.length i with
  | none => rw [e] at h; cases h
  | some j =>
    rw [e] at h
    obtain ⟨h1, h2, h3, h4⟩ := ixN_seq e
    exact ⟨j, h1, h, h2, h3, h4⟩
theorem atI_nat {α : Type} {xs : List α} {j : Nat} {v : α} (h : xs[j]? = some v) : atI xs (j : Int) = some v := by
  have hj : j < xs.length := (List.getElem?_eq_some_iff.mp h).1
  have e : ixN xs.length (j : Int) = some j := by
    unfold ixN
    rw [if_pos (by omega), if_pos (by omega)]; simp
  unfold atI; rw [e]; exact h
/-- what stands as an index of a plain subscript -/
def PlainIx (b : Expr) : Prop := ∀ o i, subscripted b false o i = operate [o, i] (getItem o i)
/-- a subscript by values -/
def IxR (X : Cx) (r : R2) : Prop :=
  ∀ (value slice : Expr) (pins : List (Addr × Obj)) (s : Shared) (σ : St) (H : Hp) (x y : V) (v u : Value) (Q : VK), Inv X pins σ H s → RelV x v → RelV y u → r x y H Q →
    subscripted slice false v u = operate [v, u] (getItem v u) → wpAny (model X.prog X.w) X.A (subscriptTail value slice v u) (EP X pins σ Q) X.xe s
/-- a call of a builtin's method by values: the receiver, the arguments -/
def MtR (X : Cx) (id : String) (r : V → List V → Hp → VK → Prop) : Prop :=
  ∀ (pins : List (Addr × Obj)) (s : Shared) (σ : St) (H : Hp) (x : V) (xs : List V) (v : Value) (us : List Value) (Q : VK), Inv X pins σ H s → RelV x v → Vals xs us → r x xs H Q →
    wpAny (model X.prog X.w) X.A (call (.builtin id) (v :: us)) (EP X pins σ Q) X.xe s
section
variable {X : Cx} {a b : Expr} {ta tb : TE} {pos : Pos}
/-- a[b] -/
theorem pe_ix {r : R2} (hr : IxR X r) (ha : PE X a ta) (hb : PE X b tb) (hs : PlainIx b) : PE X (.Subscript a b pos) (tOp r ta tb) := by
  intro pins s σ H Q I h
  exact Subscript_ (binT ha hb I h fun v u s2 x y H2 I2 rx ry q => hr a b pins s2 σ H2 x y v u Q I2 rx ry q (hs _ _))

def rIxL (K : PySem.W.Frag) : R2 := fun x y H Q => ∃ p xs i v, x = .ref p ∧ y = .int i ∧ SqL K H p xs ∧ atI xs i = some v ∧ Q v H
def rIxT (K : PySem.W.Frag) : R2 := fun x y H Q => ∃ p xs i v, x = .ref p ∧ y = .int i ∧ SqT K H p xs ∧ atI xs i = some v ∧ Q v H
theorem ix_list : IxR X (rIxL X.K) := by
  intro value slice pins s σ H x y v u Q I rx ry h hs
  obtain ⟨p, xs, i, z, rfl, rfl, hq, he, q⟩ := h
  cases rx
  obtain ⟨t, rfl⟩ := ry
  obtain ⟨its, r, pl, hz⟩ := I.list hq
  obtain ⟨j, h1, h2, h3, h4, h5⟩ := atI_get he
  obtain ⟨w, ew, rw'⟩ := r.get h2
  have hl := r.length
  have hn := line63
  have fin : EP X pins σ Q w s := ⟨z, H, I, rw', q⟩
  by_cases h0 : 0 ≤ i
  · have hj : i.toNat = j := by
      rw [seqIndex_of h0 h5] at h1
      exact Option.some.inj h1
    exact item_listR pl.isList h0 (by omega) (by rw [hj]; simpa using ew) fin hs
  · have hj : (i + (its.toArray.size : Int)).toNat = j := by
      rw [seqIndex_neg (by omega) h4] at h1
      rw [List.size_toArray, ← hl]
      exact Option.some.inj h1
    exact subscriptTail_builtinR (x := w) pl.isList.typeIs slot_list_getitem.lookup
      (wpAny_getItem_list_neg (Q := fun r s' => r = w ∧ EP X pins σ Q r s') pl.isList (by omega) (by rw [List.size_toArray] <;> omega) (by omega) (by rw [hj]; simpa using ew) ⟨rfl, fin⟩) hs
theorem ix_tup : IxR X (rIxT X.K) := by
  intro value slice pins s σ H x y v u Q I rx ry h hs
  obtain ⟨p, xs, i, z, rfl, rfl, hq, he, q⟩ := h
  cases rx
  obtain ⟨t, rfl⟩ := ry
  obtain ⟨its, r, pl, hz⟩ := I.tuple hq
  obtain ⟨j, h1, h2, h3, h4, h5⟩ := atI_get he
  obtain ⟨w, ew, rw'⟩ := r.get h2
  have hl := r.length
  have hn := line63
  have fin : EP X pins σ Q w s := ⟨z, H, I, rw', q⟩
  exact subscriptTail_builtinR (x := w) pl.typeIs slot_tuple_getitem.lookup
    (getItem_tuple (j := j) (Q := fun r s' => r = w ∧ EP X pins σ Q r s') pl (by omega) (by omega) (by rw [List.size_toArray, ← hl]; exact h1) (by simpa using ew) ⟨rfl, fin⟩) hs
theorem slice_bounds (lo hi : Option Int) (n : Nat) : (sliceBounds lo hi none n).1 = ((HT.sIx n 0 lo : Nat) : Int) ∧ (sliceBounds lo hi none n).2.1 = ((HT.sIx n n hi : Nat) : Int) ∧ (sliceBounds lo hi none n).2.2 = 1 := by
  refine ⟨?_, ?_, rfl⟩
  · cases lo with
    | none => simp [sliceBounds, HT.sIx]
    | some i =>
      simp only [sliceBounds, HT.sIx, Option.getD_none, show (1 : Int) > 0 by decide, if_true]
      by_cases h : i < 0
      · simp only [h, if_true] <;> omega
      · simp only [h, if_false] <;> omega
  · cases hi with
    | none => simp [sliceBounds, HT.sIx]
    | some i =>
      simp only [sliceBounds, HT.sIx, Option.getD_none, show (1 : Int) > 0 by decide, if_true]
      by_cases h : i < 0
      · simp only [h, if_true] <;> omega
      · simp only [h, if_false] <;> omega
theorem slicePick_cut (its : List Value) (lo hi : Option Int) : slicePick its.toArray lo hi none = ((its.drop (HT.sIx its.length 0 lo)).take (HT.sIx its.length its.length hi - HT.sIx its.length 0 lo)).toArray := by
  obtain ⟨h1, h2, h3⟩ := slice_bounds lo hi its.toArray.size
  unfold slicePick
  rw [h1, h2, h3]
  simp only [sliceRange_one, pick_run, List.size_toArray] <;> rfl
/-- xs[lo:hi] of a list: a new list -/
def rSlL (K : PySem.W.Frag) : V → Option Int → Option Int → Hp → VK → Prop := fun x lo hi H Q => ∃ a xs, x = .ref a ∧ SqL K H a xs ∧ ∀ p, H p = none → Q (.ref p) (upd H p (.lst (cutV xs lo hi)))
theorem sl_list : SlR X (rSlL X.K) := by
  intro pins s σ H x v vl vu lo hi sl Q I rx hs pl pu h
  obtain ⟨a, xs, rfl, hx, q⟩ := h
  cases rx
  obtain ⟨its, r, ht, hz⟩ := I.list hx
  have hlen := r.length
  refine ⟨"list", _, slot_list_getitem.lookup, ht.isList.typeIs, ?_⟩
  refine wpAny_getItem_list_slice ht.isList hs pl pu .none (by simp) ?_ (by rw [List.size_toArray] <;> omega)
  rw [slicePick_cut, ← hlen]
  refine ⟨.ref s.heap.objs.size, _, I.laid (t' := s.toks) (o := .lst (cutV xs lo hi)) (fun b ob q => Heap.get?_push_of_some _ q) (Nat.le_refl _) ?_, rfl, q _ (I.hok.fresh (Nat.le_refl _))⟩
  exact ⟨Nat.le_trans (cutV_length xs lo hi) hz, _, 0, (r.drop (HT.sIx xs.length 0 lo)).take (HT.sIx xs.length xs.length hi - HT.sIx xs.length 0 lo), Heap.get?_push_size _ rfl⟩

def flatV : V → Bool
  | .non => true
  | .bl _ => true
  | .int _ => true
  | .str _ => true
  | _ => false
/-- == of flat values -/
def eqV : V → V → Bool
  | .non, .non => true
  | .bl a, .bl b => a == b
  | .bl a, .int b => (if a then 1 else 0) == b
  | .int a, .bl b => a == (if b then 1 else 0)
  | .int a, .int b => a == b
  | .str a, .str b => a == b
  | _, _ => false
theorem eqAt_V {A : Around} {s : Shared} {y x : V} {u v : Value} (ry : RelV y u) (rx : RelV x v) (fy : flatV y = true) (fx : flatV x = true) : SeqAt.EqAt A s u v (eqV y x) := by
  cases y with
  | non =>
    cases ry
    cases x with
    | non => cases rx; exact SeqAt.EqAt.same _
    | bl b => cases rx; exact SeqAt.EqAt.none_bool b
    | int b => obtain ⟨t, rfl⟩ := rx; exact SeqAt.EqAt.none_int b t
    | str b => obtain ⟨t, rfl⟩ := rx; exact SeqAt.EqAt.none_str b t
    | _ => exact absurd (show false = true from fx) Bool.false_ne_true
  | bl a =>
    cases ry
    cases x with
    | non => cases rx; exact SeqAt.EqAt.bool_none a
    | bl b => cases rx; exact SeqAt.EqAt.bool_bool a b
    | int b => obtain ⟨t, rfl⟩ := rx; exact SeqAt.EqAt.bool_int a b t
    | str b => obtain ⟨t, rfl⟩ := rx; exact SeqAt.EqAt.bool_str a b t
    | _ => exact absurd (show false = true from fx) Bool.false_ne_true
  | int a =>
    obtain ⟨t', rfl⟩ := ry
    cases x with
    | non => cases rx; exact SeqAt.EqAt.int_none a t'
    | bl b => cases rx; exact SeqAt.EqAt.int_bool a t' b
    | int b => obtain ⟨t, rfl⟩ := rx; exact SeqAt.EqAt.int_int a t' b t
    | str b => obtain ⟨t, rfl⟩ := rx; exact SeqAt.EqAt.int_str a t' b t
    | _ => exact absurd (show false = true from fx) Bool.false_ne_true
  | str a =>
    obtain ⟨t', rfl⟩ := ry
    cases x with
    | non => cases rx; exact SeqAt.EqAt.str_none a t'
    | bl b => cases rx; exact SeqAt.EqAt.str_bool a t' b
    | int b => obtain ⟨t, rfl⟩ := rx; exact SeqAt.EqAt.str_int a t' b t
    | str b => obtain ⟨t, rfl⟩ := rx; exact SeqAt.EqAt.str_str a t' b t
    | _ => exact absurd (show false = true from fx) Bool.false_ne_true
  | _ => exact absurd (show false = true from fy) Bool.false_ne_true
/-- the items' answers, read off the values (a value's own answer does not lean on its token) -/
def eqU (x : V) (u : Value) : Bool := match u with
  | .none => eqV .non x
  | .bool b => eqV (.bl b) x
  | .int i _ => eqV (.int i) x
  | .str z _ => eqV (.str z) x
  | _ => false
theorem eqU_of {x y : V} {u : Value} (r : RelV y u) (f : flatV y = true) : eqU x u = eqV y x := by
  cases y with
  | non => cases r; rfl
  | bl b => cases r; rfl
  | int i => obtain ⟨t, rfl⟩ := r; rfl
  | str z => obtain ⟨t, rfl⟩ := r; rfl
  | _ => exact absurd (show false = true from f) Bool.false_ne_true
theorem any_eqU {x : V} : ∀ {xs : List V} {us : List Value}, Vals xs us → xs.all flatV = true → us.any (eqU x) = xs.any fun y => eqV y x
  | _, _, .nil, _ => rfl
  | y :: xs, u :: us, .cons r t, f => by
    rw [List.all_cons, Bool.and_eq_true] at f
    rw [List.any_cons, List.any_cons, eqU_of r f.1, any_eqU t f.2]
theorem mem_eqAt {A : Around} {s : Shared} {x : V} {v : Value} (rx : RelV x v) (fx : flatV x = true) : ∀ {xs : List V} {us : List Value}, Vals xs us → xs.all flatV = true → ∀ u ∈ us, SeqAt.EqAt A s u v (eqU x u)
  | _, _, .nil, _ => fun u hu => by cases hu
  | y :: xs, u :: us, .cons r t, f => fun u' hu => by
    rw [List.all_cons, Bool.and_eq_true] at f
    rcases List.mem_cons.mp hu with rfl | hu
    · rw [eqU_of r f.1]; exact eqAt_V r rx f.1 fx
    · exact mem_eqAt rx fx t f.2 u' hu
def inV (x : V) (xs : List V) : Bool := xs.any fun y => eqV y x
/-- x in a list or tuple of flat items -/
def rIn (K : PySem.W.Frag) (neg : Bool) : R2 := fun x y H Q => ∃ p xs, y = .ref p ∧ (SqL K H p xs ∨ SqT K H p xs) ∧ flatV x = true ∧ xs.all flatV = true ∧ Q (.bl (if neg then !inV x xs else inV x xs)) H
theorem op_notIn_seq : OpR X (compareOp .NotIn) (rIn X.K true) := by
  intro pins s σ H x y v u Q I rx ry h
  obtain ⟨p, xs, rfl, hq, fx, fs, q⟩ := h
  cases ry
  rcases hq with hq | hq
  · obtain ⟨its, r, pl, hz⟩ := I.list hq
    refine SeqAt.notIn_listAt (eqU x) pl.isList (fun w hw => mem_eqAt rx fx r fs w (by simpa using hw)) ⟨.bl _, H, I, rfl, ?_⟩
    rw [show its.toArray.any (eqU x) = its.any (eqU x) by simp, any_eqU r fs]
    exact q
  · obtain ⟨its, r, pl, hz⟩ := I.tuple hq
    refine SeqAt.notIn_tupleAt (eqU x) pl (fun w hw => mem_eqAt rx fx r fs w (by simpa using hw)) ⟨.bl _, H, I, rfl, ?_⟩
    rw [show its.toArray.any (eqU x) = its.any (eqU x) by simp, any_eqU r fs]
    exact q
theorem call_len_seq : CallR X (.builtin "len") (fun xs H Q => ∃ p ys, xs = [.ref p] ∧ (SqL X.K H p ys ∨ SqT X.K H p ys) ∧ Q (.int ys.length) H) := by
  intro pins s σ H xs us Q I r h
  obtain ⟨p, ys, rfl, hq, q⟩ := h
  obtain ⟨u, rfl, rx⟩ := vals1 r
  cases rx
  have hn := line63
  rcases hq with hq | hq
  · obtain ⟨its, r', pl, hz⟩ := I.list hq
    have hlen := r'.length
    exact Calls.call_len_list pl.isList (by simp only [List.size_toArray] <;> omega) ⟨.int ys.length, H, I.tok _, ⟨s.toks + 1, by rw [List.size_toArray, hlen]⟩, q⟩
  · obtain ⟨its, r', pl, hz⟩ := I.tuple hq
    have hlen := r'.length
    exact len_tuple pl (by simp only [List.size_toArray] <;> omega) ⟨.int ys.length, H, I.tok _, ⟨s.toks + 1, by rw [List.size_toArray, hlen]⟩, q⟩
theorem call_list_of : CallR X (.type "list") (fun xs H Q => ∃ p ys, xs = [.ref p] ∧ (SqL X.K H p ys ∨ SqT X.K H p ys) ∧ ∀ l, H l = none → Q (.ref l) (upd H l (.lst ys))) := by
  intro pins s σ H xs us Q I r h
  obtain ⟨p, ys, rfl, hq, q⟩ := h
  obtain ⟨u, rfl, rx⟩ := vals1 r
  cases rx
  have fin : ∀ (its : List Value), Vals ys its → ys.length ≤ sizeLine → ∀ (h' : Heap) (c' : Nat), (∀ b o', s.heap.get? b = some o' → h'.get? b = some o') →
      h'.get? s.heap.objs.size = some { cls := .type "list", dict := none, data := .seq its.toArray c', slots := #[] } → EP X pins σ Q (.ref s.heap.objs.size) { s with heap := h' } := fun its r' hz h' c' kp e =>
    ⟨.ref s.heap.objs.size, _, I.laid (t' := s.toks) kp (Nat.le_refl _) (show ObjOk X.prog X.w _ h' _ (.lst ys) from ⟨hz, its, c', r', e⟩), rfl, q _ (I.hok.fresh (Nat.le_refl _))⟩
  rcases hq with hq | hq
  · obtain ⟨its, r', pl, hz⟩ := I.list hq
    have hlen := r'.length
    obtain ⟨o, ho, hc, n, hd⟩ := pl.isList
    exact call_list_seq p (.inl rfl) ho hc hd (fun h' c' kp e => fin its r' hz h' c' kp e) (by simp only [List.size_toArray] <;> omega)
  · obtain ⟨its, r', pl, hz⟩ := I.tuple hq
    have hlen := r'.length
    obtain ⟨o, ho, hc, n, hd⟩ := pl
    exact call_list_seq p (.inr rfl) ho hc hd (fun h' c' kp e => fin its r' hz h' c' kp e) (by simp only [List.size_toArray] <;> omega)
/-- the value is of that builtin type -/
def tyV (K : PySem.W.Frag) (T : String) (x : V) (H : Hp) : Prop := match x with
  | .str _ => T = "str"
  | .int _ => T = "int"
  | .ref p => (T = "list" ∧ ∃ xs, SqL K H p xs) ∨ (T = "tuple" ∧ ∃ o, K.lookup p = some o ∧ o.cls = .type "tuple" ∧ o.dict = none) ∨
      (T = "dict" ∧ ((∃ kvs, H p = some (.dK kvs)) ∨ ∃ kvs, H p = some (.dT kvs))) ∨ (T = "set" ∧ ∃ S n, H p = some (.set S n))
  | _ => False
theorem tyV_is {pins : List (Addr × Obj)} {σ : St} {H : Hp} {s : Shared} {T : String} {x : V} {v : Value} (I : Inv X pins σ H s) (r : RelV x v) (ty : tyV X.K T x H) :
    s.TypeIs v T ∧ ∀ a, v = .ref a → ∃ ob, s.heap.get? a = some ob ∧ ob.dict = none := by
  cases x with
  | str z =>
    obtain ⟨t, rfl⟩ := r
    cases (show T = "str" from ty)
    exact ⟨typeIs_str s z t, fun _ e => nomatch e⟩
  | int i =>
    obtain ⟨t, rfl⟩ := r
    cases (show T = "int" from ty)
    exact ⟨typeIs_int s i t, fun _ e => nomatch e⟩
  | ref p =>
    cases r
    rcases ty with ⟨rfl, xs, hq⟩ | ⟨rfl, o, hk, hc, hd⟩ | ⟨rfl, hk⟩ | ⟨rfl, S, n, hk⟩
    · obtain ⟨its, _, pl, _⟩ := I.list hq
      refine ⟨pl.isList.typeIs, fun a e => ?_⟩
      cases e
      obtain ⟨o, n, e, c, hd, _⟩ := pl
      exact ⟨o, e, hd⟩
    · refine ⟨⟨o, I.kIn p o hk, hc⟩, fun a e => ?_⟩
      cases e
      exact ⟨o, I.kIn _ o hk, hd⟩
    · have z : ∃ o, s.heap.get? p = some o ∧ o.ExactDict := by
        rcases hk with ⟨kvs, hk⟩ | ⟨kvs, hk⟩
        · obtain ⟨_, _, _, _, o, _, _, e, ex, _⟩ := I.hok p _ hk
          exact ⟨o, e, ex⟩
        · obtain ⟨_, _, _, _, o, _, _, e, ex, _⟩ := I.hok p _ hk
          exact ⟨o, e, ex⟩
      obtain ⟨o, e, ex⟩ := z
      refine ⟨⟨o, e, ex.1⟩, fun a e2 => ?_⟩
      cases e2
      exact ⟨o, e, ex.2.1⟩
    · obtain ⟨o, _, _, _, e, ex, _⟩ := I.hok p _ hk
      refine ⟨⟨o, e, ex.1⟩, fun a e2 => ?_⟩
      cases e2
      exact ⟨o, e, ex.2.1⟩
  | _ => exact False.elim ty
def tBM0 (K : PySem.W.Frag) (T : String) (r : V → List V → Hp → VK → Prop) (to : TE) : TE := fun σ H Q => to σ H fun x H1 => tyV K T x H1 ∧ r x [] H1 Q
def tBM (K : PySem.W.Frag) (T : String) (r : V → List V → Hp → VK → Prop) (to : TE) (t : TA) : TE := fun σ H Q => to σ H fun x H1 => tyV K T x H1 ∧ t σ H1 fun xs H2 => r x xs H2 Q
variable {o e : Expr} {es : List Expr} {to : TE} {t : TA} {name : Str} {apos cpos : Pos} {T id : String} {r : V → List V → Hp → VK → Prop}
theorem pe_bm0 (pa : PlainAttrs T) (slot : Slot T name id) (hty : typeOf (.builtin id) = pure (.type "method_descriptor")) (hm : MtR X id r) (ho : PE X o to)
    (hbase : attributeBase o name X.env (eval o X.env) = eval o X.env := by rfl) (hline : (apos.endLine == cpos.line) = true := by rfl) : PE X (.Call (.Attribute o name apos) [] [] cpos) (tBM0 X.K T r to) := by
  intro pins s σ H Q I h
  refine wpAny_Call_method0_late hbase hline (thn (ho pins s σ H _ I h) fun v s1 ⟨x, H1, I1, r1, ty, q1⟩ => ?_)
  obtain ⟨h1, h2⟩ := tyV_is I1 r1 ty
  exact ⟨T, id, pa, slot, hty, h1, h2, Calls.callWith_builtin rfl (PySem.evalArgs_none (hm pins s1 σ H1 x [] v [] Q I1 r1 .nil q1))⟩
theorem pe_bm (pa : PlainAttrs T) (slot : Slot T name id) (hty : typeOf (.builtin id) = pure (.type "method_descriptor")) (hm : MtR X id r) (ho : PE X o to) (ha : PA X (e :: es) t)
    (hbase : attributeBase o name X.env (eval o X.env) = eval o X.env := by rfl)
    (hfew : ((backTo cpos (starEach (e :: es) X.env)).all (fun x => !x.1) && (backToKw cpos (keywordEach [] X.env)).all (fun x => x.1.isSome)
      && decide ((e :: es).length + ([] : List Keyword).length + (if ([] : List Keyword).isEmpty then 0 else 1) < 30)) = true := by rfl)
    (hline : (apos.endLine == cpos.line) = true := by rfl) (hs : starEach (e :: es) X.env = (false, eval e X.env) :: starEach es X.env := by rfl) (hplain : (backTo cpos (starEach es X.env)).any (·.1) = false := by rfl) :
    PE X (.Call (.Attribute o name apos) (e :: es) [] cpos) (tBM X.K T r to t) := by
  intro pins s σ H Q I h
  refine wpAny_Call_method_late hbase hfew hline rfl (thn (ho pins s σ H _ I h) fun v s1 ⟨x, H1, I1, r1, ty, q1⟩ => ?_)
  obtain ⟨h1, h2⟩ := tyV_is I1 r1 ty
  refine ⟨T, id, pa, slot, hty, h1, h2, ?_⟩
  have hA := ha cpos pins s1 σ H1 _ I1 q1
  rw [hs] at hA ⊢
  refine Calls.callWith_builtin (by show (false || (backTo cpos (starEach es X.env)).any (·.1)) = false; rw [hplain] <;> rfl) (Calls.evalArgs_plain ?_)
  exact thn hA fun us s2 ⟨vs, H2, I2, r2, q2⟩ => hm pins s2 σ H2 x vs v us Q I2 r1 r2 q2
end
end L2

namespace L2
open PySem PySem.Spec PyProof.Rows

def MtM (X : Cx) (id : String) (r : V → List V → Hp → VK → Prop) : Prop :=
  ∀ (pins : List (Addr × Obj)) (s : Shared) (σ : St) (H : Hp) (x : V) (xs : List V) (v : Value) (us : List Value) (Q : VK), Inv X pins σ H s → RelV x v → Vals xs us → r x xs H Q →
    wpAny (model X.prog X.w) X.A (call (.builtin id) (v :: us)) (EP X pins σ Q) X.xe s

theorem Vals.one : ∀ {x : V} {us : List Value}, Vals [x] us → ∃ u, us = [u] ∧ RelV x u
  | _, _, .cons r .nil => ⟨_, rfl, r⟩
theorem Vals.zero : ∀ {us : List Value}, Vals [] us → us = []
  | _, .nil => rfl
theorem Vals.dropLast {xs : List V} {us : List Value} (h : Vals xs us) : Vals xs.dropLast us.dropLast := by
  induction h with
  | nil => exact .nil
  | cons r t ih =>
    cases t with
    | nil => exact .nil
    | cons q t' => exact .cons r ih
theorem Vals.eraseIdx : ∀ {xs : List V} {us : List Value} (i : Nat), Vals xs us → Vals (xs.eraseIdx i) (us.eraseIdx i)
  | _, _, _, .nil => .nil
  | _, _, 0, .cons _ t => t
  | _, _, i + 1, .cons r t => .cons r (Vals.eraseIdx i t)
theorem erase_last {α : Type} (l : List α) : l.eraseIdx (l.length - 1) = l.dropLast := by
  induction l with
  | nil => rfl
  | cons a r ih =>
    cases r with
    | nil => rfl
    | cons b r =>
      have e : (a :: b :: r).length - 1 = ((b :: r).length - 1) + 1 := by
        have h1 : (a :: b :: r).length = r.length + 2 := rfl
        have h2 : (b :: r).length = r.length + 1 := rfl
        omega
      rw [e, List.eraseIdx_cons_succ, ih]
      all_goals rfl
theorem len_erase {α : Type} : ∀ (l : List α) (i : Nat), (l.eraseIdx i).length ≤ l.length
  | [], _ => Nat.le_refl _
  | _ :: _, 0 => Nat.le_succ _
  | _ :: r, i + 1 => Nat.succ_le_succ (len_erase r i)
section
variable {X : Cx} {pins : List (Addr × Obj)} {σ : St} {H : Hp} {s : Shared} {l b : Addr} {xs ys zs : List V}

theorem Inv.lset {its its' : List Value} {n : Nat} {f : Array Value → Array Value} {t' : Nat} (I : Inv X pins σ H s) (hH : H l = some (.lst xs))
    (e : s.heap.get? l = some { cls := .type "list", data := .seq its.toArray n }) (hf : f its.toArray = its'.toArray) (hv : Vals ys its') (hz : ys.length ≤ sizeLine) :
    Inv X pins σ (upd H l (.lst ys)) { s with heap := s.heap.update l (Obj.mapSeq f), toks := t' } := by
  have q := PySem.IsL.update e f
  rw [hf] at q
  refine I.write (x := l) (e := l) (by rw [hH]; exact trivial) (.inl rfl) (fun b' u hb hu => (Heap.get?_update_other s.heap (Obj.mapSeq f) (Ne.symm hb)).trans hu) ⟨_, q⟩ ?_
  exact ⟨hz, its', _, hv, q⟩
theorem Inv.lstM (I : Inv X pins σ H s) (hH : H l = some (.lst xs)) : xs.length ≤ sizeLine ∧ ∃ (its : List Value) (n : Nat), Vals xs its ∧ xs.length = its.length ∧ s.heap.get? l = some { cls := .type "list", data := .seq its.toArray n } := by
  obtain ⟨z, its, n, r, e⟩ := I.hok l _ hH
  exact ⟨z, its, n, r, r.length, e⟩

theorem notLongL {n : Nat} (h : n ≤ sizeLine) : Builtin.List.listTooLong n = false := by
  unfold Builtin.List.listTooLong
  exact decide_eq_false (by omega)
end

section
variable {X : Cx}

def rAppend : V → List V → Hp → VK → Prop := fun x vs H Q => ∃ l xs y, x = .ref l ∧ vs = [y] ∧ H l = some (.lst xs) ∧ xs.length < sizeLine ∧ Q .non (upd H l (.lst (xs ++ [y])))
theorem mt_append : MtM X "list.append" rAppend := by
  intro pins s σ H x vs v us Q I rx rv h
  obtain ⟨l, xs, y, rfl, rfl, hH, hz, q⟩ := h
  cases rx
  obtain ⟨u, rfl, ru⟩ := rv.one
  obtain ⟨z, its, n, r, hl, e⟩ := I.lstM hH
  refine call_meets F.slot_list_append ⟨_, e, rfl⟩ F.entry_list_append (F.args_list_append_2 _ _) (PySem.list_append l its.toArray n u (by rw [List.size_toArray]; omega)) ⟨e, ?_⟩
  refine ⟨.non, _, I.lset (its' := its ++ [u]) hH e (by simp) (r.append (.cons ru .nil)) ?_, rfl, q⟩
  rw [List.length_append, List.length_singleton]
  omega

def rExtend : V → List V → Hp → VK → Prop := fun x vs H Q => ∃ l b xs zs, x = .ref l ∧ vs = [.ref b] ∧ H l = some (.lst xs) ∧ H b = some (.lst zs) ∧ xs.length + zs.length ≤ sizeLine ∧ Q .non (upd H l (.lst (xs ++ zs)))
theorem mt_extend : MtM X "list.extend" rExtend := by
  intro pins s σ H x vs v us Q I rx rv h
  obtain ⟨l, b, xs, zs, rfl, rfl, hH, hB, hz, q⟩ := h
  cases rx
  obtain ⟨u, rfl, ru⟩ := rv.one
  cases ru
  obtain ⟨z, its, n, r, hl, e⟩ := I.lstM hH
  obtain ⟨z2, its2, n2, r2, hl2, e2⟩ := I.lstM hB
  have hsz : its.toArray.size + its2.toArray.size ≤ sizeLine := by rw [List.size_toArray, List.size_toArray]; omega
  have hlong : ¬ (!its.toArray.isEmpty && Builtin.List.listTooLong (its.toArray.size + its2.toArray.size)) = true := by
    rw [notLongL hsz, Bool.and_false]
    exact Bool.false_ne_true
  refine call_meets F.slot_list_extend ⟨_, e, rfl⟩ F.entry_list_extend (F.args_list_extend_2 _ _)
    (AutoSeq1.list_extend_list_list_0 l its.toArray n b its2.toArray n2 hlong (by rw [List.size_toArray]; omega) (by omega)) ⟨e, e2, ?_⟩
  refine ⟨.non, _, I.lset (its' := its ++ its2) hH e (by simp) (r.append r2) ?_, rfl, q⟩
  rw [List.length_append]
  omega

def rPop : V → List V → Hp → VK → Prop := fun x vs H Q => ∃ l xs y, x = .ref l ∧ vs = [] ∧ H l = some (.lst xs) ∧ xs[xs.length - 1]? = some y ∧ Q y (upd H l (.lst xs.dropLast))
theorem mt_pop : MtM X "list.pop" rPop := by
  intro pins s σ H x vs v us Q I rx rv h
  obtain ⟨l, xs, y, rfl, rfl, hH, hy, q⟩ := h
  cases rx
  have hus := rv.zero
  subst hus
  obtain ⟨z, its, n, r, hl, e⟩ := I.lstM hH
  obtain ⟨u, hu, ru⟩ := r.get hy
  have hy' : its.toArray[its.toArray.size - 1]? = some u := by
    show its.toArray[its.length - 1]? = some u
    rw [← Array.getElem?_toList, ← hl]
    exact hu
  refine call_meets F.slot_list_pop ⟨_, e, rfl⟩ F.entry_list_pop (F.args_list_pop_1 _) (MeetsSeq.list_pop_last l its.toArray n u hy' (by rw [List.size_toArray]; omega)) ⟨e, ?_⟩
  refine ⟨y, _, I.lset (its' := its.dropLast) hH e ?_ r.dropLast ?_, ru, q⟩
  · show its.toArray.eraseIdxIfInBounds (its.toArray.size - 1) = its.dropLast.toArray
    rw [List.size_toArray, List.eraseIdxIfInBounds_toArray, erase_last]
  · rw [List.length_dropLast]
    omega

def rPopAt : V → List V → Hp → VK → Prop := fun x vs H Q => ∃ l xs i k y, x = .ref l ∧ vs = [.int i] ∧ H l = some (.lst xs) ∧ -(2 ^ 63) ≤ i ∧ i < 2 ^ 63 ∧ seqIndex? i xs.length = some k ∧ xs[k]? = some y ∧ Q y (upd H l (.lst (xs.eraseIdx k)))
theorem mt_popAt : MtM X "list.pop" rPopAt := by
  intro pins s σ H x vs v us Q I rx rv h
  obtain ⟨l, xs, i, k, y, rfl, rfl, hH, h1, h2, hk, hy, q⟩ := h
  cases rx
  obtain ⟨u, rfl, ru⟩ := rv.one
  obtain ⟨t, rfl⟩ := ru
  obtain ⟨z, its, n, r, hl, e⟩ := I.lstM hH
  obtain ⟨w, hw, rw'⟩ := r.get hy
  refine call_meets F.slot_list_pop ⟨_, e, rfl⟩ F.entry_list_pop (F.args_list_pop_2 _ _)
    (MeetsSeq.list_pop_at l its.toArray n i t k w (fitsIndex_both h1 h2) (by rw [List.size_toArray, ← hl]; exact hk) (by rw [← Array.getElem?_toList]; exact hw) (by rw [List.size_toArray]; omega)) ⟨e, ?_⟩
  refine ⟨y, _, I.lset (its' := its.eraseIdx k) hH e ?_ (r.eraseIdx k) ?_, rw', q⟩
  · show its.toArray.eraseIdxIfInBounds k = (its.eraseIdx k).toArray
    rw [List.eraseIdxIfInBounds_toArray]
  · have := len_erase xs k
    omega

end

section
variable {prog : Program} {w : World} {A : Around} {E : Value → Shared → Prop} {s : Shared}
set_option maxRecDepth 100000 in
end

section
variable {X : Cx}
end
end L2

namespace L2
open PySem PySem.Spec PyProof.Rows

theorem Vals.ints : ∀ {ns : List Int} {us : List Value}, Vals (ns.map V.int) us → IntsAre us ns
  | [], us, h => by
    rw [List.map_nil] at h
    cases h
    exact IntsAre.nil
  | n :: ns, us, h => by
    rw [List.map_cons] at h
    cases h with
    | cons r t =>
      obtain ⟨k, rfl⟩ := r
      exact IntsAre.cons n k (Vals.ints t)
theorem Vals.bls : ∀ {bs : List Bool} {us : List Value}, Vals (bs.map V.bl) us → us = bs.map Value.bool
  | [], us, h => by
    rw [List.map_nil] at h
    cases h
    rfl
  | b :: bs, us, h => by
    rw [List.map_cons] at h
    cases h with
    | cons r t =>
      cases r
      rw [Vals.bls t, List.map_cons]
theorem Vals.ref1 {a : Addr} {us : List Value} (r : Vals [V.ref a] us) : us = [Value.ref a] := by
  cases r with
  | cons r t =>
    cases t
    cases r
    rfl
section
variable {prog : Program} {w : World} {A : Around} {E : Value → Shared → Prop} {s : Shared} {l : Addr} {its : List Value} {ns : List Int} {Q : Value → Shared → Prop}
theorem sum_raw (hh : A.handled = none) (hl : s.heap.IsList l its.toArray) (hi : IntsAre its ns)
    (h : ∀ h' tk t', (∀ b o, s.heap.get? b = some o → h'.get? b = some o) → Q (.int ns.sum t') { s with heap := h', toks := tk }) : wpAny (model prog w) A (call (.builtin "sum") [.ref l]) Q E s := by
  obtain ⟨xs, e⟩ := hi.allInts.items
  have hn : numsOf (intItems xs).toList = ns := by rw [← e]; exact hi.numsOf
  rw [nums_intItems] at hn
  rw [e] at hl
  refine PySem.sum_intListG hh hl fun h' tk t' hk => ?_
  have := h h' tk t' hk
  rw [preSum_eq, List.take_of_length_le (by simp), hn]; exact this
theorem max_raw (hh : A.handled = none) (hl : s.heap.IsList l its.toArray) (hi : IntsAre its ns) (hne : 0 < ns.length)
    (h : ∀ h' tk M t', (∀ b o, s.heap.get? b = some o → h'.get? b = some o) → M ∈ ns → (∀ a, a ∈ ns → a ≤ M) → Q (.int M t') { s with heap := h', toks := tk }) : wpAny (model prog w) A (call (.builtin "max") [.ref l]) Q E s := by
  obtain ⟨xs, e⟩ := hi.allInts.items
  have hn : numsOf (intItems xs).toList = ns := by rw [← e]; exact hi.numsOf
  rw [nums_intItems] at hn
  subst hn
  rw [e] at hl
  have hsz : 0 < xs.size := by simpa using hne
  refine PySem.max_intList hh hl hsz fun v h' tk hv hk => ?_
  obtain ⟨t, rfl⟩ := intItems_at hv
  obtain ⟨h1, h2⟩ := argBest_gt (numAt xs) (xs.size - 1)
  refine h h' tk _ t hk ?_ fun a ha => ?_
  · rw [numAt_eq]; exact PySem.getD_mem (by rw [List.length_map, Array.length_toList]; omega)
  · obtain ⟨j, hj, rfl⟩ := mem_getD ha
    rw [List.length_map, Array.length_toList] at hj
    rw [← numAt_eq]; exact h2 j (by omega)
end

section
variable {X : Cx}
/-- sum(xs) of a list of ints -/
def rSum (K : PySem.W.Frag) : List V → Hp → VK → Prop := fun vs H Q => ∃ (a : Addr) (ns : List Int), vs = [V.ref a] ∧ SqL K H a (ns.map V.int) ∧ Q (.int ns.sum) H
/-- max(xs), min(xs) of a list of ints -/
def rMax (K : PySem.W.Frag) : List V → Hp → VK → Prop := fun vs H Q => ∃ (a : Addr) (ns : List Int), vs = [V.ref a] ∧ SqL K H a (ns.map V.int) ∧ 0 < ns.length ∧ ∀ m, m ∈ ns → (∀ y, y ∈ ns → y ≤ m) → Q (.int m) H
theorem cr_sum (hc : X.calm = true) : CallR X (.builtin "sum") (rSum X.K) := by
  intro pins s σ H vs us Q I r h
  obtain ⟨a, ns, rfl, hs, q⟩ := h
  obtain ⟨its, rv, hl, _⟩ := I.list hs
  rw [Vals.ref1 r]
  exact sum_raw (I.ok.hd hc) hl.isList rv.ints fun h' tk t' hk => ⟨.int _, H, I.kept hk, ⟨_, rfl⟩, q⟩
theorem cr_max (hc : X.calm = true) : CallR X (.builtin "max") (rMax X.K) := by
  intro pins s σ H vs us Q I r h
  obtain ⟨a, ns, rfl, hs, hne, q⟩ := h
  obtain ⟨its, rv, hl, _⟩ := I.list hs
  rw [Vals.ref1 r]
  exact max_raw (I.ok.hd hc) hl.isList rv.ints hne fun h' tk m t' hk h1 h2 => ⟨.int _, H, I.kept hk, ⟨_, rfl⟩, q m h1 h2⟩
end

section
variable {X : Cx}
def rIndex (K : PySem.W.Frag) : V → List V → Hp → VK → Prop := fun x xs H Q => ∃ (a : Addr) (ys : List V) (y : V) (j : Nat) (z : V), x = V.ref a ∧ xs = [y] ∧ SqL K H a ys ∧ flatV y = true ∧ ys.all flatV = true ∧ ys[j]? = some z ∧ eqV z y = true ∧
  (∀ (m : Nat) (z' : V), m < j → ys[m]? = some z' → eqV z' y = false) ∧ Q (.int (j : Nat)) H
theorem flat_at {ys : List V} (f : ys.all flatV = true) {j : Nat} {z : V} (h : ys[j]? = some z) : flatV z = true := List.all_eq_true.mp f z (List.mem_of_getElem? h)
theorem mt_index : MtR X "list.index" (rIndex X.K) := by
  intro pins s σ H x xs v us Q I rx rxs h
  obtain ⟨a, ys, y, j, z, rfl, rfl, hs, fy, fys, hz, hzj, hno, q⟩ := h
  cases rx
  cases rxs with
  | cons ry rt =>
    rename_i uy ut
    cases rt
    obtain ⟨its, rv, ⟨⟨cls, dd, data, sl⟩, n, ho, hc, hdn, hd⟩, hlen⟩ := I.list hs
    simp only at hc hd
    subst hc hd
    obtain ⟨u, hu, ru⟩ := rv.get hz
    obtain ⟨hjl, hje⟩ := List.getElem?_eq_some_iff.mp hu
    have hvl := rv.length
    have hj : j < its.toArray.size := by simpa using hjl
    have hsl := sizeLine_eq
    refine call_meets PySem.F.slot_list_index ⟨_, ho, rfl⟩ PySem.F.entry_list_index (PySem.F.args_list_index_2 _ _)
      (SeqAt.list_indexAt a its.toArray n dd sl uy (eqU y) j hj (by omega) ?_ ?_) ⟨ho, fun u' hu' => mem_eqAt ry fy rv fys u' (by simpa using hu'), ?_⟩
    · have e1 : its.toArray[j] = u := by simpa using hje
      rw [e1, eqU_of ru (flat_at fys hz)]
      exact hzj
    · intro m hm hmj
      have hml : m < its.length := by simpa using hm
      have hmy : m < ys.length := by omega
      have hy' : ys[m]? = some ys[m] := List.getElem?_eq_getElem hmy
      obtain ⟨u2, hu2, ru2⟩ := rv.get hy'
      obtain ⟨_, hme⟩ := List.getElem?_eq_some_iff.mp hu2
      have e1 : its.toArray[m] = u2 := by simpa using hme
      rw [e1, eqU_of ru2 (flat_at fys hy')]
      exact hno m _ hmj hy'
    · exact ⟨.int (j : Nat), H, I.tok _, ⟨_, rfl⟩, q⟩
end

section
variable {X : Cx}
end

theorem iter_any {prog : Program} {w : World} {A : Around} {E : Value → Shared → Prop} {s : Shared} {l : Addr} {items : Array Value} {Q : Value → Shared → Prop} (hl : s.heap.IsList l items)
    (h : ∀ s₂ : Shared, s₂ = { s with heap := s.heap.push { cls := .type "list_iterator", data := .fields #[.ref l, .int 0 0] } } →
      (s₂.heap.IsListIter s.heap.objs.size l 0 ∧ s₂.heap.IsList l items) → l ≠ s.heap.objs.size → Q (.ref s.heap.objs.size) s₂) : wpAny (model prog w) A (pyIter (.ref l)) Q E s := by
  have hlt : l < s.heap.objs.size := by obtain ⟨_, e, _⟩ := hl; exact Heap.lt_size e
  exact wpAny_pyIter_list hl (h _ rfl ⟨⟨_, Heap.get?_push_size _ rfl, rfl, rfl⟩, hl.push _⟩ (Nat.ne_of_lt hlt))
theorem truth_bools {prog : Program} {w : World} {A : Around} {bs : List Bool} {its : List Value} (e : its = bs.map Value.bool) :
    TruthOf prog w A (fun i v => its.toArray[i]? = some v) (fun i => bs.getD i false) := fun i v s Q E hv hq => by
  have hv' : its[i]? = some v := by simpa using hv
  rw [e, List.getElem?_map] at hv'
  obtain ⟨b, hb, rfl⟩ := Option.map_eq_some_iff.mp hv'
  have hg : bs.getD i false = b := by rw [List.getD_eq_getElem?_getD, hb] <;> rfl
  have hq' : Q (bs.getD i false) s := hq
  rw [hg] at hq'
  exact wpAny_truthy_bool hq'
theorem any_range : ∀ bs : List Bool, (List.range bs.length).any (fun i => bs.getD i false) = bs.any id
  | [] => rfl
  | b :: bs => by
    rw [List.length_cons, List.range_succ_eq_map, List.any_cons, List.any_map, List.any_cons, ← any_range bs]
    all_goals rfl
section
variable {X : Cx}
def rAny (K : PySem.W.Frag) : List V → Hp → VK → Prop := fun vs H Q => ∃ (a : Addr) (bs : List Bool), vs = [V.ref a] ∧ SqL K H a (bs.map V.bl) ∧ Q (.bl (bs.any id)) H
theorem cr_any (hc : X.calm = true) : CallR X (.builtin "any") (rAny X.K) := by
  intro pins s σ H vs us Q I r h
  obtain ⟨a, bs, rfl, hs, q⟩ := h
  obtain ⟨its, rv, hl, _⟩ := I.list hs
  rw [Vals.ref1 r]
  have hb := rv.bls
  refine call_any_walk (iter_any hl.isList fun s₂ e2 st hne => ?_)
  subst e2
  refine ⟨_, _, _, _, _, _, _, rfl, Walks.list (A := X.A.in1) (I.ok.hd hc) _ a hne its.toArray, st, truth_bools hb, fun h' tk hk => ?_⟩
  refine ⟨.bl _, H, I.kept fun b o eo => hk b o (fun hmem => ?_) (Heap.get?_push_of_some _ eo), ?_, q⟩
  · rcases List.mem_cons.mp hmem with e1 | hmem
    · exact absurd (e1 ▸ Heap.lt_size eo) (Nat.lt_irrefl _)
    · cases hmem
  · show Value.bool _ = Value.bool _
    rw [← any_range, hb, List.size_toArray, List.length_map]
end

mutual
inductive Dp (K : PySem.W.Frag) (H : Hp) : V → PyData → Prop
  | non : Dp K H .non .none
  | bl (b : Bool) : Dp K H (.bl b) (.bool b)
  | int (i : Int) : Dp K H (.int i) (.int i)
  | str (x : Str) : Dp K H (.str x) (.str x)
  | lst {a : Addr} {xs : List V} {ds : List PyData} : SqL K H a xs → DpAll K H xs ds → Dp K H (.ref a) (.list ds)
  | tup {a : Addr} {xs : List V} {ds : List PyData} : SqT K H a xs → DpAll K H xs ds → Dp K H (.ref a) (.tuple ds)
inductive DpAll (K : PySem.W.Frag) (H : Hp) : List V → List PyData → Prop
  | nil : DpAll K H [] []
  | cons {v : V} {vs : List V} {d : PyData} {ds : List PyData} : Dp K H v d → DpAll K H vs ds → DpAll K H (v :: vs) (d :: ds)
end
section
variable {X : Cx} {pins : List (Addr × Obj)} {σ : St} {H : Hp} {s : Shared}
mutual
theorem Dp.reads (I : Inv X pins σ H s) : ∀ (d : PyData) (v : V) (u : Value), Dp X.K H v d → RelV v u → ∃ as, Reads s.heap u d as
  | .none, _, _, h, r => by
    cases h
    cases r
    exact ⟨_, Reads.none⟩
  | .bool b, _, _, h, r => by
    cases h
    cases r
    exact ⟨_, Reads.bool b⟩
  | .int i, _, _, h, r => by
    cases h
    obtain ⟨t, rfl⟩ := r
    exact ⟨_, Reads.int i t⟩
  | .str x, _, _, h, r => by
    cases h
    obtain ⟨t, rfl⟩ := r
    exact ⟨_, Reads.str x t⟩
  | .list ds, _, _, h, r => by
    cases h with
    | lst hs ha =>
      cases r
      obtain ⟨its, rv, ⟨o, n, ho, hc, _, hd⟩, _⟩ := I.list hs
      obtain ⟨as, hr⟩ := Dp.readsAll I ds _ its ha rv
      exact ⟨_, Reads.list ho hc hd hr⟩
  | .tuple ds, _, _, h, r => by
    cases h with
    | tup hs ha =>
      cases r
      obtain ⟨its, rv, ⟨o, ho, hc, n, hd⟩, _⟩ := I.tuple hs
      obtain ⟨as, hr⟩ := Dp.readsAll I ds _ its ha rv
      exact ⟨_, Reads.tuple ho hc hd hr⟩
  | .dict _, _, _, h, _ => by cases h
theorem Dp.readsAll (I : Inv X pins σ H s) : ∀ (ds : List PyData) (vs : List V) (us : List Value), DpAll X.K H vs ds → Vals vs us → ∃ as, ReadsAll s.heap us ds as
  | [], _, _, h, r => by
    cases h
    cases r
    exact ⟨_, ReadsAll.nil⟩
  | d :: ds, _, _, h, r => by
    cases h with
    | cons h1 h2 =>
      cases r with
      | cons r1 r2 =>
        obtain ⟨as, q1⟩ := Dp.reads I d _ _ h1 r1
        obtain ⟨bs, q2⟩ := Dp.readsAll I ds _ _ h2 r2
        exact ⟨_, ReadsAll.cons q1 q2⟩
end
end
section
variable {X : Cx}
end
end L2

namespace L2
open PySem PySem.Spec PyProof.Rows
abbrev CellAt (h : Heap) (c : Addr) (v : Option Value) : Prop := h.IsCell c v
def relS (scope sc : Scope) : Scope :=
  { scope with names := scope.names.map fun (n, k) => if (k == .free && sc.kind == .function && sc.names.lookup n == some .cell) then (n, .cell) else (n, k) }

def cloFrom (cells : List (Str × Addr)) : List (Str × NameKind) → List (Str × Addr) → List (Str × Addr)
  | [], acc => acc
  | (n, k) :: r, acc => if k == .free then cloFrom cells r ((n, (cells.lookup n).getD 0) :: acc) else cloFrom cells r acc

theorem closure_loop (env : Env) (f : Str × NameKind → List (Str × Addr) → Sem (ForInStep (List (Str × Addr))))
    (hf : ∀ n k c, f (n, k) c = if k == .free then (do let a ← cellOf env n; pure (.yield ((n, a) :: c))) else pure (.yield c)) :
    ∀ (names : List (Str × NameKind)) (acc : List (Str × Addr)), (∀ y ∈ names, y.2 = .free → ∃ c, env.cells.lookup y.1 = some c) → forIn names acc f = pure (cloFrom env.cells names acc)
  | [], acc, _ => by rw [List.forIn_nil]; rfl
  | (n, k) :: r, acc, h => by
    rw [List.forIn_cons, hf]
    have ih := fun acc => closure_loop env f hf r acc fun y hy => h y (List.mem_cons_of_mem _ hy)
    unfold cloFrom
    by_cases hk : (k == NameKind.free) = true
    · rw [if_pos hk, if_pos hk]
      obtain ⟨c, hc⟩ := h (n, k) List.mem_cons_self (by simpa using hk)
      have e : cellOf env n = pure c := by unfold cellOf; rw [hc]
      rw [e]
      have e2 : (env.cells.lookup n).getD 0 = c := by rw [hc]; rfl
      rw [e2]
      exact ih _
    · rw [if_neg hk, if_neg hk]
      exact ih _
theorem closure_ok {scope : Scope} {env : Env} (h : ∀ y ∈ scope.names, y.2 = .free → ∃ c, env.cells.lookup y.1 = some c) : closureFor scope env = pure (cloFrom env.cells scope.names []) := by
  simp only [closureFor]
  rw [closure_loop env _ (fun n k c => rfl) scope.names [] h]
  rfl

theorem mem_lookup {α : Type} : ∀ {l : List (Str × α)} {n : Str} {c : α}, (n, c) ∈ l → ∃ c', l.lookup n = some c'
  | (k, v) :: r, n, c, h => by
    rw [List.lookup_cons]
    cases hb : n == k with
    | true => exact ⟨_, rfl⟩
    | false =>
      rcases List.mem_cons.mp h with e | h
      · cases e; simp at hb
      · exact mem_lookup h

theorem cloFrom_mem {cells : List (Str × Addr)} : ∀ {names : List (Str × NameKind)} {acc : List (Str × Addr)} {n : Str} {c : Addr}, (n, c) ∈ cloFrom cells names acc → (n, c) ∈ acc ∨ ((n, .free) ∈ names ∧ c = (cells.lookup n).getD 0)
  | [], _, _, _, h => .inl h
  | (m, k) :: r, acc, n, c, h => by
    unfold cloFrom at h
    split at h
    · rename_i hk
      have hk : k = .free := by simpa using hk
      rcases cloFrom_mem h with h | ⟨h1, h2⟩
      · rcases List.mem_cons.mp h with e | h
        · cases e; exact .inr ⟨hk ▸ List.mem_cons_self, rfl⟩
        · exact .inl h
      · exact .inr ⟨List.mem_cons_of_mem _ h1, h2⟩
    · rcases cloFrom_mem h with h | ⟨h1, h2⟩
      · exact .inl h
      · exact .inr ⟨List.mem_cons_of_mem _ h1, h2⟩
theorem cloFrom_acc {cells : List (Str × Addr)} : ∀ {names : List (Str × NameKind)} {acc : List (Str × Addr)} {p : Str × Addr}, p ∈ acc → p ∈ cloFrom cells names acc
  | [], _, _, h => h
  | (m, k) :: r, acc, p, h => by
    unfold cloFrom
    split
    · exact cloFrom_acc (List.mem_cons_of_mem _ h)
    · exact cloFrom_acc h
theorem cloFrom_has {cells : List (Str × Addr)} : ∀ {names : List (Str × NameKind)} {acc : List (Str × Addr)} {n : Str}, (n, .free) ∈ names → (n, (cells.lookup n).getD 0) ∈ cloFrom cells names acc
  | (m, k) :: r, acc, n, h => by
    unfold cloFrom
    rcases List.mem_cons.mp h with e | h
    · cases e
      exact cloFrom_acc List.mem_cons_self
    · split
      · exact cloFrom_has h
      · exact cloFrom_has h

theorem cells_mem : ∀ {names : List (Str × NameKind)} {h : Heap} {acc : List (Str × Addr)} {x : Str} {c : Addr}, (x, c) ∈ cellsFrom h.objs.size names acc →
    (x, c) ∈ acc ∨ ((x, .cell) ∈ names ∧ h.objs.size ≤ c ∧ CellAt (pushCells h names) c none)
  | [], _, _, _, _, h => .inl h
  | (n, k) :: r, h, acc, x, c, hm => by
    unfold cellsFrom at hm
    unfold pushCells
    split at hm
    · rename_i hk
      rw [if_pos hk]
      have hk : k = .cell := by simpa using hk
      rw [← Heap.size_push h { cls := .type "cell", data := .cell none }] at hm
      rcases cells_mem hm with hm | ⟨h1, h2, h3⟩
      · rcases List.mem_cons.mp hm with e | hm
        · cases e
          exact .inr ⟨hk ▸ List.mem_cons_self, Nat.le_refl _, _, pushCells_keeps r _ _ _ (Heap.get?_push_size _ rfl), rfl⟩
        · exact .inl hm
      · rw [Heap.size_push] at h2
        exact .inr ⟨List.mem_cons_of_mem _ h1, Nat.le_of_succ_le h2, h3⟩
    · rename_i hk
      rw [if_neg hk]
      rcases cells_mem hm with hm | ⟨h1, h2, h3⟩
      · exact .inl hm
      · exact .inr ⟨List.mem_cons_of_mem _ h1, h2, h3⟩
theorem cells_acc : ∀ {names : List (Str × NameKind)} {n : Nat} {acc : List (Str × Addr)} {p : Str × Addr}, p ∈ acc → p ∈ cellsFrom n names acc
  | [], _, _, _, h => h
  | (m, k) :: r, n, acc, p, h => by
    unfold cellsFrom
    split
    · exact cells_acc (List.mem_cons_of_mem _ h)
    · exact cells_acc h
theorem cells_has : ∀ {names : List (Str × NameKind)} {n : Nat} {acc : List (Str × Addr)} {x : Str}, (x, .cell) ∈ names → ∃ c, (x, c) ∈ cellsFrom n names acc
  | (m, k) :: r, n, acc, x, h => by
    unfold cellsFrom
    rcases List.mem_cons.mp h with e | h
    · cases e
      exact ⟨n, cells_acc List.mem_cons_self⟩
    · split
      · exact cells_has h
      · exact cells_has h
theorem cells_inj : ∀ {names : List (Str × NameKind)} {h : Heap} {acc : List (Str × Addr)} {x y : Str} {c : Addr}, (∀ p ∈ acc, p.2 < h.objs.size) → (∀ x y c, (x, c) ∈ acc → (y, c) ∈ acc → x = y) →
    (x, c) ∈ cellsFrom h.objs.size names acc → (y, c) ∈ cellsFrom h.objs.size names acc → x = y
  | [], _, _, _, _, _, _, hi, h1, h2 => hi _ _ _ h1 h2
  | (n, k) :: r, h, acc, x, y, c, hl, hi, h1, h2 => by
    unfold cellsFrom at h1 h2
    split at h1
    · rename_i hk
      rw [if_pos hk] at h2
      rw [← Heap.size_push h { cls := .type "cell", data := .cell none }] at h1 h2
      refine cells_inj (h := h.push _) (fun p hp => ?_) (fun x y c a b => ?_) h1 h2
      · rw [Heap.size_push]
        rcases List.mem_cons.mp hp with rfl | hp
        · exact Nat.lt_succ_self _
        · exact Nat.lt_succ_of_lt (hl p hp)
      · rcases List.mem_cons.mp a with e | a <;> rcases List.mem_cons.mp b with e' | b
        · cases e; cases e'; rfl
        · cases e; exact absurd (hl _ b) (Nat.lt_irrefl _)
        · cases e'; exact absurd (hl _ a) (Nat.lt_irrefl _)
        · exact hi _ _ _ a b
    · rename_i hk
      rw [if_neg hk] at h2
      exact cells_inj hl hi h1 h2

theorem newEnv_comp {M : Model} {A : Around} {E : Value → Shared → Prop} {s : Shared} {scope : Scope} {globals : Addr} {closure : List (Str × Addr)} {qual : Str} {func : Option Addr} {code : Value} {around : Env} {builtins : Addr} {Q : Env → Shared → Prop}
    (h : Q (newEnv scope s.heap.objs.size globals (cellsFrom (s.heap.objs.size + 1) scope.names closure) qual func code (some around) builtins)
      { s with heap := pushCells (s.heap.push { cls := .type "dict", data := .dict #[] }) scope.names }) :
    wpAny M A (newFunctionEnv scope globals closure [] qual func code (some around) builtins) Q E s := by
  simp only [newFunctionEnv, Option.isSome_some, if_true]
  refine wpAny_bind (wpAny_alloc ?_)
  refine wpAny_bind (wpAny_layCells _ (fun n k c => rfl) scope.names closure _ _ ?_)
  rw [show ({ s with heap := s.heap.push { cls := .type "dict", data := .dict #[] } } : Shared).heap.objs.size = s.heap.objs.size + 1 from Heap.size_push ..]
  rw [List.forIn_nil]
  exact wpAny_bind (wpAny_pure (wpAny_pure h))

/-- every name of the written scope, in the scope that runs -/
theorem lookup_relS {sc : Scope} : ∀ {names : List (Str × NameKind)} {x : Str} {k : NameKind},
    (names.map fun (n, k) => if (k == NameKind.free && sc.kind == .function && sc.names.lookup n == some .cell) then (n, NameKind.cell) else (n, k)).lookup x = some k →
    ∃ k', names.lookup x = some k' ∧ (k = k' ∨ (k' = .free ∧ k = .cell))
  | [], _, _, h => by simp at h
  | (n, k₀) :: r, x, k, h => by
    have ih := @lookup_relS sc r x k
    have h' : List.lookup x ((if (k₀ == NameKind.free && sc.kind == .function && sc.names.lookup n == some .cell) = true then (n, NameKind.cell) else (n, k₀)) :: (r.map _)) = some k := h
    cases hx : x == n with
    | true =>
      simp only [List.lookup_cons, hx]
      by_cases hc : (k₀ == NameKind.free && sc.kind == .function && sc.names.lookup n == some .cell) = true
      · rw [if_pos hc] at h'
        simp only [List.lookup_cons, hx] at h'
        cases h'
        simp only [Bool.and_eq_true, beq_iff_eq] at hc
        exact ⟨k₀, rfl, .inr ⟨hc.1.1, rfl⟩⟩
      · rw [if_neg hc] at h'
        simp only [List.lookup_cons, hx] at h'
        cases h'
        exact ⟨_, rfl, .inl rfl⟩
    | false =>
      simp only [List.lookup_cons, hx]
      by_cases hc : (k₀ == NameKind.free && sc.kind == .function && sc.names.lookup n == some .cell) = true
      · rw [if_pos hc] at h'
        simp only [List.lookup_cons, hx] at h'
        exact ih h'
      · rw [if_neg hc] at h'
        simp only [List.lookup_cons, hx] at h'
        exact ih h'
/-- the names of a comprehension's block: its own (with their places in N), or captured -/
structure BlkOk (N : List Str) (sc scope : Scope) (own : List (Str × Nat)) : Prop where
  kind : scope.kind = .function
  uniq : ∀ y ∈ scope.names, scope.names.lookup y.1 = some y.2
  ix : ∀ p ∈ own, N[p.2]? = some p.1
  free : ∀ y ∈ scope.names, y.2 = .free → sc.names.lookup y.1 = some .cell ∨ sc.names.lookup y.1 = some .free
  own : ∀ y ∈ scope.names, y.2 = .local ∨ y.2 = .cell → y.1 ∈ own.map (·.1) ∨ y.1 ∉ N
/-- the slots of the block's own names forgotten -/
def wipe (σ : St) : List Nat → St
  | [] => σ
  | v :: vs => (wipe σ vs).set v none
theorem wipe_length (σ : St) : ∀ vs : List Nat, (wipe σ vs).length = σ.length
  | [] => rfl
  | v :: vs => by unfold wipe; rw [List.length_set, wipe_length σ vs]
theorem wipe_some {σ : St} {i : Nat} {x : V} : ∀ {vs : List Nat}, (wipe σ vs)[i]? = some (some x) → σ[i]? = some (some x) ∧ i ∉ vs
  | [], h => ⟨h, by simp⟩
  | v :: vs, h => by
    unfold wipe at h
    by_cases hi : v = i
    · subst hi
      by_cases hv : v < (wipe σ vs).length
      · rw [List.getElem?_set_self hv] at h; cases h
      · rw [List.getElem?_eq_none (by simpa using hv)] at h; cases h
    · rw [List.getElem?_set_ne hi] at h
      obtain ⟨h1, h2⟩ := wipe_some h
      exact ⟨h1, by simp only [List.mem_cons, not_or]; exact ⟨fun e => hi e.symm, h2⟩⟩

/-- the context of a block that starts at s, its iterator's objects at fp -/
abbrev Cx.blk (X : Cx) (s : Shared) (H : Hp) (scope : Scope) (cenv : Env) (fp : List Addr) : Cx := { X with s_0 := s, H_0 := H, env := cenv, outer := X.stack, ex := fp, fn := fun x => scope.names.lookup x == some .cell, pn := [], xe := fun _ _ => False }
section
variable {X : Cx} {pins : List (Addr × Obj)} {σ : St} {H : Hp} {s : Shared}
theorem block_start {scope : Scope} {own : List (Str × Nat)} {fp : List Addr} (I : Inv X pins σ H s) (ok : BlkOk X.N X.env.scope scope own) (hN : X.N.Nodup) (hfp : ∀ b ∈ fp, FpOk X pins H b ∧ b < s.heap.objs.size) :
    Inv (X.blk s H scope (compEnvC scope (cellsFrom (s.heap.objs.size + 1) scope.names (cloFrom X.env.cells scope.names [])) s.heap.objs.size X.env) fp) [] (wipe σ (own.map (·.2))) H { s with heap := pushCells (s.heap.push { cls := .type "dict", data := .dict #[] }) scope.names } := by
  have hfree : ∀ y ∈ scope.names, y.2 = .free → ∃ c, X.env.cells.lookup y.1 = some c := fun y hy e => by
    rcases ok.free y hy e with k | k
    · exact I.ok.has _ (.inl k)
    · exact I.ok.has _ (.inr k)
  generalize hcenv : compEnvC scope (cellsFrom (s.heap.objs.size + 1) scope.names (cloFrom X.env.cells scope.names [])) s.heap.objs.size X.env = cenv
  have kp : ∀ b o, s.heap.get? b = some o → (pushCells (s.heap.push { cls := .type "dict", data := .dict #[] }) scope.names).get? b = some o := fun b o e => pushCells_keeps _ _ _ _ (Heap.get?_push_of_some _ e)
  have hL : cenv.locals = s.heap.objs.size := by rw [← hcenv]; rfl
  have hcl : cenv.cells = cellsFrom (s.heap.objs.size + 1) scope.names (cloFrom X.env.cells scope.names []) := by rw [← hcenv]; rfl
  have hsc : cenv.scope = relS scope X.env.scope := by rw [← hcenv]; rfl
  rw [← Heap.size_push s.heap { cls := .type "dict", data := .dict #[] }] at hcl
  have cm : ∀ {y c}, (y, c) ∈ cloFrom X.env.cells scope.names [] → X.env.cells.lookup y = some c ∧ c < s.heap.objs.size := fun {y c} hm => by
    rcases cloFrom_mem hm with hm | ⟨h1, rfl⟩
    · cases hm
    · obtain ⟨c, hc⟩ := hfree _ h1 rfl
      rw [hc]
      obtain ⟨w, z⟩ := I.cell _ _ hc
      exact ⟨rfl, z.lt⟩
  have mem : ∀ {y c}, cenv.cells.lookup y = some c → (X.env.cells.lookup y = some c ∧ c < s.heap.objs.size) ∨ (s.heap.objs.size + 1 ≤ c ∧ CellAt (pushCells (s.heap.push { cls := .type "dict", data := .dict #[] }) scope.names) c none) := fun {y c} e => by
    rw [hcl] at e
    rcases cells_mem (PySem.mem_of_lookup e) with hm | ⟨_, h2, h3⟩
    · exact .inl (cm hm)
    · rw [Heap.size_push] at h2; exact .inr ⟨h2, h3⟩
  have look : ∀ {y}, scope.names.lookup y = some .free → ∃ c, cenv.cells.lookup y = some c ∧ X.env.cells.lookup y = some c := fun {y} hl => by
    have hy : (y, NameKind.free) ∈ scope.names := PySem.mem_of_lookup hl
    obtain ⟨c', e'⟩ := mem_lookup (cells_acc (names := scope.names) (n := (s.heap.push { cls := .type "dict", data := .dict #[] }).objs.size) (cloFrom_has (cells := X.env.cells) (acc := []) hy))
    rw [← hcl] at e'
    refine ⟨c', e', ?_⟩
    rw [hcl] at e'
    rcases cells_mem (PySem.mem_of_lookup e') with hm | ⟨h1, _, _⟩
    · exact (cm hm).1
    · have := ok.uniq _ h1
      rw [hl] at this; cases this
  have okB : (X.blk s H scope cenv fp).Ok := by
    refine ⟨I.ok.mod, by show cenv.scope.kind = _; rw [hsc]; exact ok.kind, by show cenv.globals = _; rw [← hcenv]; exact I.ok.glob, by show cenv.builtins = _; rw [← hcenv]; exact I.ok.blt, by show s.heap.objs.size ≤ cenv.locals; rw [hL]; exact Nat.le_refl _,
      fun y z c e1 e2 => ?_, fun y hy => ?_, fun y c z e => ?_, I.ok.hd, I.ok.frames, .inl rfl, fun b hb => ⟨?_, fun y c e z => ?_⟩, I.bs, Nat.le_trans I.ok.bsz I.sz, fun b o e hb => ?_, fun b hb z => ?_, I.stack, I.stkFree⟩
    · have e1 : cenv.cells.lookup y = some c := e1
      have e2 : cenv.cells.lookup z = some c := e2
      rw [hcl] at e1 e2
      refine cells_inj (fun p hp => ?_) (fun y z c a b => I.ok.inj y z c (cm a).1 (cm b).1) (PySem.mem_of_lookup e1) (PySem.mem_of_lookup e2)
      rw [Heap.size_push]
      exact Nat.lt_succ_of_lt (cm (y := p.1) (c := p.2) hp).2
    · show ∃ c, cenv.cells.lookup y = some c
      have key : ∀ k, cenv.kindOf y = some k → (k = .cell ∨ k = .free) → ∃ c, cenv.cells.lookup y = some c := fun k hk hk' => by
        unfold Env.kindOf at hk
        rw [hsc] at hk
        obtain ⟨k', e, r⟩ := lookup_relS hk
        have : k' = .cell ∨ k' = .free := by
          rcases r with rfl | ⟨rfl, _⟩
          · exact hk'
          · exact .inr rfl
        rcases this with rfl | rfl
        · obtain ⟨c, hm⟩ := cells_has (n := (s.heap.push { cls := .type "dict", data := .dict #[] }).objs.size) (acc := cloFrom X.env.cells scope.names []) (PySem.mem_of_lookup e)
          obtain ⟨c', e'⟩ := mem_lookup hm
          exact ⟨c', by rw [hcl]; exact e'⟩
        · obtain ⟨c, h1, _⟩ := look e
          exact ⟨c, h1⟩
      rcases hy with hy | hy
      · exact key _ hy (.inl rfl)
      · exact key _ hy (.inr rfl)
    · have z : (scope.names.lookup y == some NameKind.cell) = true := z
      have z : scope.names.lookup y = some .cell := by simpa using z
      have e : cenv.cells.lookup y = some c := e
      rw [hcl] at e
      rcases cells_mem (PySem.mem_of_lookup e) with hm | ⟨_, h2, _⟩
      · rcases cloFrom_mem hm with hm | ⟨h1, _⟩
        · cases hm
        · have q := ok.uniq _ h1
          rw [z] at q; cases q
      · rw [Heap.size_push] at h2
        exact Nat.le_of_succ_le h2
    · show b ≠ cenv.locals
      rw [hL]; exact Nat.ne_of_lt (hfp b hb).2
    · have e : cenv.cells.lookup y = some c := e
      rcases mem e with ⟨h1, _⟩ | ⟨h1, _⟩
      · exact (hfp b hb).1.2.2.2.2.1 y c h1 z
      · have h2 : s.heap.objs.size + 1 ≤ b := by rw [← z]; exact h1
        exact absurd (Nat.lt_of_lt_of_le (hfp b hb).2 (Nat.le_of_succ_le h2)) (Nat.lt_irrefl _)
    · rcases (hfp b hb).1.2.2.2.1 with z | z
      · exact I.ok.noex b o e z
      · exact absurd (Nat.lt_of_lt_of_le (Heap.lt_size e) (Nat.le_trans I.ok.bsz z)) (Nat.lt_irrefl _)
    · rcases List.mem_cons.mp (I.stkSub b z) with z | z
      · exact (hfp b hb).1.2.1 z
      · exact (hfp b hb).1.2.2.1 z
  refine ⟨okB, rfl, I.bare, Un.kept kp, ⟨fun _ => none, ?_, fun i y av e1 e2 e3 => ?_⟩, fun y c e => ?_, ?_, fun y c e => ?_, fun p hp => ?_, I.hok.kept kp, by rw [wipe_length]; exact I.len⟩
  · show Heap.Ns _ cenv.locals _
    rw [hL]
    exact Heap.Ns.keeps (Heap.Ns.new ..) fun b o e => pushCells_keeps _ _ _ _ e
  · obtain ⟨e2, hne⟩ := wipe_some e2
    have hfr : scope.names.lookup y = some .free ∧ (cenv.kindOf y = some .cell ∨ cenv.kindOf y = some .free) := by
      have key : ∀ k, cenv.scope.names.lookup y = some k → k = .local ∨ k = .cell ∨ k = .free → scope.names.lookup y = some .free ∧ (cenv.kindOf y = some .cell ∨ cenv.kindOf y = some .free) := fun k hk hk' => by
        have hk0 := hk
        rw [hsc] at hk
        obtain ⟨k', e, r⟩ := lookup_relS hk
        have no : ¬ (k' = .local ∨ k' = .cell) := fun hh => by
          rcases ok.own _ (PySem.mem_of_lookup e) hh with e' | e'
          · obtain ⟨p, hp, hpy⟩ := List.mem_map.mp e'
            have e3 := ok.ix p hp
            have : p.1 = y := hpy
            rw [this] at e3
            exact hne (List.mem_map.mpr ⟨p, hp, nodup_ix hN e3 e1⟩)
          · exact e' (List.mem_of_getElem? e1)
        rcases r with rfl | ⟨rfl, rfl⟩
        · rcases hk' with rfl | rfl | rfl
          · exact absurd (.inl rfl) no
          · exact absurd (.inr rfl) no
          · exact ⟨e, .inr hk0⟩
        · exact ⟨e, .inl hk0⟩
      have e3 : Vis cenv.scope y := e3
      rcases e3 with e3 | e3 | e3
      · exact key _ e3 (.inl rfl)
      · exact key _ e3 (.inr (.inl rfl))
      · exact key _ e3 (.inr (.inr rfl))
    obtain ⟨m, hn, hl⟩ := I.loc
    have hvis : Vis X.env.scope y := (ok.free _ (PySem.mem_of_lookup hfr.1) rfl).elim (fun k => .inr (.inl k)) (fun k => .inr (.inr k))
    obtain ⟨w, r, q⟩ := hl i y av e1 e2 hvis
    refine ⟨w, r, .inr ⟨hfr.2, ?_⟩⟩
    obtain ⟨c, h1, h2⟩ := look hfr.1
    rcases q with ⟨k, _⟩ | ⟨_, c', e', z⟩
    · have k : X.env.scope.names.lookup y = some .local := k
      rcases ok.free _ (PySem.mem_of_lookup hfr.1) rfl with k' | k' <;> rw [show X.env.scope.names.lookup y = _ from k'] at k <;> cases k
    · rw [h2] at e'; cases e'
      exact ⟨c, h1, z.keeps kp⟩
  · have e : cenv.cells.lookup y = some c := e
    rcases mem e with ⟨h1, _⟩ | ⟨_, z⟩
    · obtain ⟨w, z⟩ := I.cell y c h1
      exact ⟨w, z.keeps kp⟩
    · exact ⟨_, z⟩
  · show H cenv.locals = none
    rw [hL]; exact I.hok.fresh (Nat.le_refl _)
  · have e : cenv.cells.lookup y = some c := e
    rcases mem e with ⟨h1, _⟩ | ⟨h1, _⟩
    · exact I.freeC y c h1
    · exact I.hok.fresh (Nat.le_of_succ_le h1)
  · exact absurd (show p ∈ ([] : List (Addr × Obj)) ++ [] from hp) (by simp)

/-- an item appended to a tracked list -/
theorem app_ok {E : Value → Shared → Prop} {D : Addr} {xs : List V} {y : V} {v : Value} {Q : Value → Shared → Prop} (I : Inv X pins σ H s) (hD : H D = some (.lst xs)) (hz : xs.length < sizeLine) (r : RelV y v)
    (h : ∀ s', Inv X pins σ (upd H D (.lst (xs ++ [y]))) s' → Q .none s') : wpAny (model X.prog X.w) X.A (call (.builtin "list.append") [.ref D, v]) Q E s := by
  obtain ⟨hz', its, n, ri, e⟩ := I.hok D _ hD
  have hl := ri.length
  refine append_at (hsz := by rw [List.size_toArray]; omega) e fun h' sb ho' => ?_
  refine h { s with heap := h' } (I.write (t' := s.toks) (by rw [hD]; trivial) (.inl rfl) (fun b u hb q => (sb.2 b hb).trans q) ⟨_, ho'⟩ ⟨by rw [List.length_append]; exact hz, its ++ [v], n + 1, ri.append (.cons r .nil), ?_⟩)
  rw [ho']
  simp

/-- a clause's tests -/
def PTs (X : Cx) (ifs : List Expr) (t : TT) : Prop :=
  ∀ (pins : List (Addr × Obj)) (s : Shared) (σ : St) (H : Hp) (Q : Bool → Hp → Prop), Inv X pins σ H s → t σ H Q →
    wpAny (model X.prog X.w) X.A (forIn ifs true fun c r => if r = true then do let ok ← isTrue c X.env (eval c X.env); pure (ForInStep.yield ok) else pure (ForInStep.yield r)) (TP X pins σ Q) X.xe s
def tYes : TT := fun _ H Q => Q true H
theorem pts_nil : PTs X [] tYes := fun _ _ _ H _ I h => wpAny_tests_nil ⟨H, I, h⟩
theorem pts_one {c : Expr} {t : TT} (h : PT X c t) : PTs X [c] t := fun pins s σ H Q I hw => wpAny_tests_one (h pins s σ H Q I hw)
end

theorem thnF {α : Type} {t : Sem α} {Q Q' : α → Shared → Prop} {M : Model} {A : Around} {E : Value → Shared → Prop} {s : Shared} (h : wpAny M A t Q (fun _ _ => False) s) (hQ : ∀ a s, Q a s → Q' a s) : wpAny M A t Q' E s := wpAny_mono h hQ fun _ _ z => False.elim z

/-- the loop of a list comprehension's block, the target of any form (codeAny_compLoop_tests asks a target that no tuple goes to; statement and proof follow it, PyProof/CompMap.lean:41-61, with the step letOwnedTupleGo kept) -/
theorem compLoop_any {prog : Program} {w : World} {A : Around} {R : Result → Shared → Prop} {s : Shared} {elt target iter : Expr} {ifs : List Expr} {scope : Scope} {pos : Pos} {it acc : Value} {env : Env} (I : Nat → Shared → Prop)
    (turn : ∀ n s, I n s → wpAny (model prog w) A (pyNext it) (fun r s₁ => match r with
      | none => R (.ok .next) s₁
      | some v => wpAny (model prog w) A (letOwnedTupleGo target it v) (fun _ s₁' => wpAny (model prog w) A (assign target env v) (fun _ s₂ =>
          wpAny (model prog w) A (forIn ifs true fun c r => if r = true then do let ok ← isTrue c env (eval c env); pure (ForInStep.yield ok) else pure (ForInStep.yield r)) (fun ok s₃ =>
            if ok = true then wpAny (model prog w) A (eval elt env) (fun x s₄ =>
              wpAny (model prog w) A (call (.builtin "list.append") [acc, x]) (fun _ s₅ => ∃ m, m < n ∧ I m s₅) (notedBy (model prog w) A env fun e s' => R (.error e) s') s₄) (notedBy (model prog w) A env fun e s' => R (.error e) s') s₃
            else ∃ m, m < n ∧ I m s₃) (notedBy (model prog w) A env fun e s' => R (.error e) s') s₂) (notedBy (model prog w) A env fun e s' => R (.error e) s') s₁') (notedBy (model prog w) A env fun e s' => R (.error e) s') s₁) (notedBy (model prog w) A env fun e s' => R (.error e) s') s)
    (n : Nat) (h : I n s) :
    codeAny (model prog w) A (.compLoop (.ListComp elt [⟨target, iter, ifs, 0⟩] scope pos) 0 it acc env) R s := by
  refine codeAny_loop rfl I (fun n s hI => ?_) n h
  show wpAny _ A ((compTurn (.ListComp elt [⟨target, iter, ifs, 0⟩] scope pos) 0 it acc env).onRaise (fun x => do noteFrame x env; theTreesLotGoes x)) _ _ s
  refine wpAny_noted ?_
  rw [compTurn_list]
  refine wpAny_bind (wpAny_standAt (wpAny_bind (wpAny_mono (turn n s hI) (fun r s₁ h₁ => ?_) fun _ _ h' => h')))
  cases r with
  | none => exact wpAny_pure h₁
  | some v =>
    refine wpAny_bind (wpAny_mono h₁ (fun _ s₁' h₁' => ?_) fun _ _ h' => h')
    refine wpAny_bind (wpAny_mono h₁' (fun _ s₂ h₂ => wpAny_bind (wpAny_mono h₂ (fun ok s₃ h₃ => ?_) fun _ _ h' => h')) fun _ _ h' => h')
    cases ok with
    | false => exact wpAny_pure ⟨rfl, h₃⟩
    | true =>
      exact wpAny_bind (wpAny_bind (wpAny_mono h₃ (fun x s₄ h₄ => wpAny_bind (wpAny_mono h₄ (fun _ s₅ h₅ => wpAny_pure (wpAny_pure ⟨rfl, h₅⟩)) fun _ _ h' => h')) fun _ _ h' => h'))

section
variable {X : Cx}
/-- [elt for target in iter if ..]: D the new list; W by the turn and a measure, Nx what a turn is to reach -/
def tLc (wi : TI) (g : TG) (tt : TT) (te : TE) (vs : List Nat) : TE := fun σ H Q => wi σ H fun J H1 => ∀ D, H1 D = none → ∃ W : Nat → Nat → Hp → Prop, (∃ m, W 0 m (upd H1 D (.lst []))) ∧ ∀ i m H, W i m H →
  (J.stop i H ∧ Q (.ref D) H) ∨ (J.go i H ∧ ∃ Nx : Hp → Prop, (∀ H', Nx H' → ∃ m', m' < m ∧ W (i + 1) m' H') ∧ ∀ x H', J.yld i H x H' → g x (wipe σ vs) H' fun σ2 H2 => wipe σ2 vs = wipe σ vs ∧ tt σ2 H2 fun b H3 =>
    if b = true then te σ2 H3 fun y H4 => ∃ acc, H4 D = some (.lst acc) ∧ acc.length < sizeLine ∧ Nx (upd H4 D (.lst (acc ++ [y]))) else Nx H3)
theorem lc_core {pins : List (Addr × Obj)} {s : Shared} {σ : St} {H : Hp} {Q : VK} {elt tg iter : Expr} {ifs : List Expr} {scope : Scope} {own : List (Str × Nat)} {pos pos' : Pos} {wi : TI} {g : TG} {tt : TT} {te : TE} {use : Option (Value → Sem Unit)} {Qf : Value → Shared → Prop}
    (hc : X.calm = true) (hN : X.N.Nodup) (I : Inv X pins σ H s) (hi : PI X tg iter wi) (ok : BlkOk X.N X.env.scope scope own)
    (hg : ∀ (s : Shared) (H : Hp) (C : Addr) (cl : List (Str × Addr)) (fp : List Addr), PG (X.blk s H scope (compEnvC scope cl C X.env) fp) tg g) (ht : ∀ (s : Shared) (H : Hp) (C : Addr) (cl : List (Str × Addr)) (fp : List Addr), PTs (X.blk s H scope (compEnvC scope cl C X.env) fp) ifs tt)
    (he : ∀ (s : Shared) (H : Hp) (C : Addr) (cl : List (Str × Addr)) (fp : List Addr), PE (X.blk s H scope (compEnvC scope cl C X.env) fp) elt te) (hs : ∀ x, foldedSetIterable iter X.env x = pure x)
    (h : tLc wi g tt te (own.map (·.2)) σ H Q)
    (hRR : ∀ D C s' m H', Inv X pins σ H' s' → Q (.ref D) H' → s'.heap.Ns C m → FpOk X pins H' C → compPost (model X.prog X.w) X.A X.xe use Qf (.ref D) C (.ok .next) s') :
    wpAny (model X.prog X.w) X.A (comprehension (.ListComp elt [⟨tg, iter, ifs, 0⟩] scope pos) scope X.env pos' (newList []) false (eval iter X.env) use) Qf X.xe s := by
  have hfree : ∀ y ∈ scope.names, y.2 = .free → ∃ c, X.env.cells.lookup y.1 = some c := fun y hy e => by
    rcases ok.free y hy e with k | k
    · exact I.ok.has _ (.inl k)
    · exact I.ok.has _ (.inr k)
  refine wpAny_comprehension_free (use := use) rfl hs (closure_ok hfree) ok.kind (fun y hy e => by rw [ok.uniq y hy, e])
    (thn (hi pins s σ H _ I h) fun xv s1 hx => thn hx fun itv s2 h2 => ?_)
  obtain ⟨it, fp, tn, J, H2, e, I2, T, st2, f2, q⟩ := h2
  subst e
  refine wpAny_newObj_type (newEnv_comp ?_) (by show 0 ≤ sizeLine; decide)
  generalize hD : s2.heap.objs.size = D
  have hDn : H2 D = none := I2.hok.fresh (Nat.le_of_eq hD)
  obtain ⟨W, ⟨m0, w0⟩, turn⟩ := q D hDn
  -- the new list
  generalize hs3 : ({ s2 with heap := s2.heap.push { cls := .type "list", data := .seq ([] : List Value).toArray } } : Shared) = s3
  have I3 : Inv X pins σ (upd H2 D (.lst [])) s3 := by
    rw [← hs3]
    refine I2.laid (t' := s2.toks) (fun b o e => Heap.get?_push_of_some _ e) (Nat.le_of_eq hD) ⟨Nat.zero_le _, [], 0, .nil, ?_⟩
    rw [← hD]
    exact Heap.get?_push_size _ rfl
  have h3 : s3.heap = s2.heap.push { cls := .type "list", data := .seq ([] : List Value).toArray } := by rw [← hs3]
  have sz : ∀ b ∈ fp, b < s2.heap.objs.size := fun b hb => by
    obtain ⟨o, e, _⟩ := T.obj _ _ st2 b hb
    exact Heap.lt_size e
  have f3 : ∀ b ∈ fp, FpOk X pins (upd H2 D (.lst [])) b ∧ b < s3.heap.objs.size := fun b hb => by
    have hlt := sz b hb
    refine ⟨⟨?_, (f2 b hb).2⟩, by rw [h3, Heap.size_push]; exact Nat.lt_succ_of_lt hlt⟩
    rw [upd_ne (by rw [← hD]; exact Nat.ne_of_lt hlt)]
    exact (f2 b hb).1
  have st3 : tn 0 s3.heap := T.keep _ _ _ st2 fun b _ o e => by rw [h3]; exact Heap.get?_push_of_some _ e
  have I4 := block_start I3 ok hN f3
  have pg := hg s3 (upd H2 D (.lst [])) s3.heap.objs.size (cellsFrom (s3.heap.objs.size + 1) scope.names (cloFrom X.env.cells scope.names [])) fp
  have pt := ht s3 (upd H2 D (.lst [])) s3.heap.objs.size (cellsFrom (s3.heap.objs.size + 1) scope.names (cloFrom X.env.cells scope.names [])) fp
  have pe := he s3 (upd H2 D (.lst [])) s3.heap.objs.size (cellsFrom (s3.heap.objs.size + 1) scope.names (cloFrom X.env.cells scope.names [])) fp
  show codeAny _ _ (.compStart (.ListComp elt [⟨tg, iter, ifs, 0⟩] scope pos) 0 (.ref it) (.ref D) (compEnvC scope (cellsFrom (s3.heap.objs.size + 1) scope.names (cloFrom X.env.cells scope.names [])) s3.heap.objs.size X.env)) (compPost (model X.prog X.w) X.A X.xe use Qf (.ref D) s3.heap.objs.size) { s3 with heap := pushCells (s3.heap.push { cls := .type "dict", data := .dict #[] }) scope.names }
  have nfp : ∀ b ∈ fp, (upd H2 D (.lst [])) b = none := fun b hb => (f3 b hb).1.1
  generalize hce : compEnvC scope (cellsFrom (s3.heap.objs.size + 1) scope.names (cloFrom X.env.cells scope.names [])) s3.heap.objs.size X.env = ce at I4 pg pt pe ⊢
  have cL : ce.locals = s3.heap.objs.size := by subst hce; rfl
  generalize hH3 : upd H2 D (.lst []) = H3 at I3 I4 pg pt pe w0 nfp f3
  generalize hs4 : ({ s3 with heap := pushCells (s3.heap.push { cls := .type "dict", data := .dict #[] }) scope.names } : Shared) = s4 at I4 ⊢
  have st4 : tn 0 s4.heap := T.keep _ _ _ st3 fun b _ o e => by rw [← hs4]; exact pushCells_keeps _ _ _ _ (Heap.get?_push_of_some _ e)
  have stat : ∀ {σ' : St} {H' : Hp} {s' : Shared}, Inv (X.blk s3 H3 scope ce fp) [] σ' H' s' → (∀ b ∈ fp, H' b = none) → ∀ b ∈ fp, FpOk (X.blk s3 H3 scope ce fp) [] H' b := fun {σ' H' s'} I' hn b hb =>
    ⟨hn b hb, (I'.ok.exf b hb).1, I'.ok.exfs b hb, .inl hb, fun x c e => (I'.ok.exf b hb).2 x c e, fun p hp => absurd (show p ∈ ([] : List (Addr × Obj)) ++ [] from hp) (by simp)⟩
  have loop : codeAny (model X.prog X.w) X.A (.compLoop (.ListComp elt [⟨tg, iter, ifs, 0⟩] scope pos) 0 (.ref it) (.ref D) ce) (compPost (model X.prog X.w) X.A X.xe use Qf (.ref D) s3.heap.objs.size) s4 := by
    refine compLoop_any (fun n s' => ∃ i H', Inv (X.blk s3 H3 scope ce fp) [] (wipe σ (own.map (·.2))) H' s' ∧ tn i s'.heap ∧ (∀ b ∈ fp, H' b = none) ∧ W i n H') ?_ m0 ⟨0, H3, I4, st4, nfp, w0⟩
    rintro n s5 ⟨i, H5, I5, st5, n5, w5⟩
    rcases turn i n H5 w5 with ⟨stop, qq⟩ | ⟨go, Nx, hNx, step⟩
    · have td := T.done (X.blk s3 H3 scope ce fp) rfl rfl rfl hc i [] s5 _ H5 (fun _ _ => False) I5 (stat I5 n5) st5 stop
      refine thnF td fun r s6 ⟨hr, I6⟩ => ?_
      subst hr
      -- back in the def's context
      have I7 : Inv X pins σ H5 s6 := I3.call' (ch := fp) I6.os I6.base I6.hok I6.bare fun b hb => ⟨(f3 b hb).1.2.2.2.1, (f3 b hb).1.2.1, (f3 b hb).1.2.2.2.2.1, (f3 b hb).1.2.2.2.2.2⟩
      have nC : H5 s3.heap.objs.size = none := by
        have z : H5 ce.locals = none := I6.free
        rw [cL] at z
        exact z
      obtain ⟨m, hn, _⟩ := I6.loc
      have hn : s6.heap.Ns ce.locals m := hn
      rw [cL] at hn
      exact hRR D s3.heap.objs.size s6 m H5 I7 qq hn (I3.fpOk (Nat.le_refl _) nC)
    · have ti := T.item (X.blk s3 H3 scope ce fp) rfl rfl rfl hc i [] s5 _ H5 (fun _ _ => False) I5 (stat I5 n5) st5 go
      refine thnF ti fun r s6 ⟨u, hr, h6⟩ => ?_
      subst hr
      refine thnF h6 fun _ s7 ⟨x, H7, I7, r7, y7, st7, n7⟩ => ?_
      have I7' := I7.pinned (stat I7 n7) (T.obj _ _ st7)
      refine thnF (pg _ s7 _ H7 x u _ I7' r7 (step x H7 y7)) fun _ s8 ⟨σ8, H8, I8, hw8, q8⟩ => ?_
      refine thnF (pt _ s8 σ8 H8 _ I8 q8) fun b s9 ⟨H9, I9, q9⟩ => ?_
      -- the turn's end
      have fin : ∀ {s' : Shared} {H' : Hp}, Inv (X.blk s3 H3 scope ce fp) ([] ++ pinsAt fp s7.heap) σ8 H' s' → Nx H' → ∃ m, m < n ∧ ∃ i H', Inv (X.blk s3 H3 scope ce fp) [] (wipe σ (own.map (·.2))) H' s' ∧ tn i s'.heap ∧ (∀ b ∈ fp, H' b = none) ∧ W i m H' := fun {s' H'} I' nx => by
        obtain ⟨m', hm, w'⟩ := hNx H' nx
        have pin' : ∀ b ∈ fp, ∀ o, s7.heap.get? b = some o → s'.heap.get? b = some o ∧ H' b = none := fun b hb o e =>
          let z := I'.pin (b, o) (List.mem_append_right _ (List.mem_append_right _ (mem_pinsAt hb e)))
          ⟨z.1, z.2.1⟩
        have hl : (wipe σ (own.map (·.2))).length = σ8.length := by rw [← hw8, wipe_length]
        refine ⟨m', hm, i + 1, H', (I'.unpinned (pins := [])).weak hl (fun j v e => ?_), T.keep _ _ _ st7 fun b hb o e => (pin' b hb o e).1, fun b hb => ?_, w'⟩
        · rw [← hw8] at e
          exact (wipe_some e).1
        · obtain ⟨o, e, _⟩ := T.obj _ _ st7 b hb
          exact (pin' b hb o e).2
      cases b with
      | false =>
        simp only [Bool.false_eq_true, if_false] at q9 ⊢
        exact fin I9 q9
      | true =>
        simp only [if_true] at q9 ⊢
        refine thnF (pe _ s9 σ8 H9 _ I9 q9) fun z s10 ⟨yv, H10, I10, r10, acc, hD10, hz10, nx⟩ => ?_
        exact app_ok (X := X.blk s3 H3 scope ce fp) I10 hD10 hz10 r10 fun s11 I11 => fin I11 nx
  exact codeAny_compStart_list loop (T.self X.A 0 _ _ _ st4 loop)
/-- as a value -/
theorem pe_lc {elt tg iter : Expr} {ifs : List Expr} {scope : Scope} {own : List (Str × Nat)} {pos : Pos} {wi : TI} {g : TG} {tt : TT} {te : TE} (hc : X.calm = true) (hN : X.N.Nodup) (hi : PI X tg iter wi) (ok : BlkOk X.N X.env.scope scope own)
    (hg : ∀ (s : Shared) (H : Hp) (C : Addr) (cl : List (Str × Addr)) (fp : List Addr), PG (X.blk s H scope (compEnvC scope cl C X.env) fp) tg g) (ht : ∀ (s : Shared) (H : Hp) (C : Addr) (cl : List (Str × Addr)) (fp : List Addr), PTs (X.blk s H scope (compEnvC scope cl C X.env) fp) ifs tt)
    (he : ∀ (s : Shared) (H : Hp) (C : Addr) (cl : List (Str × Addr)) (fp : List Addr), PE (X.blk s H scope (compEnvC scope cl C X.env) fp) elt te) (hs : ∀ x, foldedSetIterable iter X.env x = pure x := by intro _; rfl) :
    PE X (.ListComp elt [⟨tg, iter, ifs, 0⟩] scope pos) (tLc wi g tt te (own.map (·.2))) := by
  intro pins s σ H Q I h
  rw [eval_ListComp]
  refine lc_core hc hN I hi ok hg ht he hs h fun D C s' m H' I' q hn f => ⟨m, hn, fun h'' sb => ?_⟩
  obtain ⟨f0, f1, f2, f3, f4, f5⟩ := f
  exact ⟨.ref D, H', I'.turned (t' := s'.toks) (fun b o hb e => (sb.2 b hb).trans e) f0 f1 f3 f4 f5, rfl, q⟩
/-- name = [..] on one line, the name a local -/
theorem ps_setLc {i : Nat} {y : Str} {py : Pos} {elt tg iter : Expr} {ifs : List Expr} {scope : Scope} {own : List (Str × Nat)} {pos spos : Pos} {wi : TI} {g : TG} {tt : TT} {te : TE} (hc : X.calm = true) (hN : X.N.Nodup) (hy : X.N[i]? = some y) (hyl : X.env.scope.names.lookup y = some .local)
    (hsw : swapsWith (.ListComp elt [⟨tg, iter, ifs, 0⟩] scope pos) (some (.Name y py)) spos.line X.env = pure true) (hi : PI X tg iter wi) (ok : BlkOk X.N X.env.scope scope own)
    (hg : ∀ (s : Shared) (H : Hp) (C : Addr) (cl : List (Str × Addr)) (fp : List Addr), PG (X.blk s H scope (compEnvC scope cl C X.env) fp) tg g) (ht : ∀ (s : Shared) (H : Hp) (C : Addr) (cl : List (Str × Addr)) (fp : List Addr), PTs (X.blk s H scope (compEnvC scope cl C X.env) fp) ifs tt)
    (he : ∀ (s : Shared) (H : Hp) (C : Addr) (cl : List (Str × Addr)) (fp : List Addr), PE (X.blk s H scope (compEnvC scope cl C X.env) fp) elt te) (hs : ∀ x, foldedSetIterable iter X.env x = pure x := by intro _; rfl) :
    PS X (.Assign [.Name y py] (.ListComp elt [⟨tg, iter, ifs, 0⟩] scope pos) spos) (tAsg (tLc wi g tt te (own.map (·.2))) (gName i)) := by
  intro pins s σ H D I h
  rw [exec_Assign_Name_used _ _ _ _ hsw]
  refine wpAny_bind (wpAny_standAt (wpAny_bind ?_))
  show wpAny _ X.A (do let _ ← comprehension (.ListComp elt [⟨tg, iter, ifs, 0⟩] scope pos) scope X.env (firstIterPos [⟨tg, iter, ifs, 0⟩] pos) (newList []) false (eval iter X.env) (some (assign (.Name y py) X.env))) _ _ s
  have h : tLc wi g tt te (own.map (·.2)) σ H (fun x H1 => gName i x σ H1 D.nx) := h
  refine wpAny_bind (thn (lc_core (Qf := fun _ s' => SP X pins D .next s') hc hN I hi ok hg ht he hs h fun L C s' m H' I' q hn f => ?_) fun _ s' hq => wpAny_pure (wpAny_pure hq))
  show wpAny _ _ (assign (.Name y py) X.env (.ref L)) _ _ _
  refine wpAny_assign_Name (store_ok2 (v := V.ref L) I' hN hy (.inl hyl) rfl (fun s2 I2 ⟨a, sb, ha⟩ => ?_) (.inr hyl))
  obtain ⟨f0, f1, f2, f3, f4, f5⟩ := f
  have haC : C ≠ a := by
    rcases ha with z | z
    · rw [z]; exact f1
    · exact fun e => f4 y a z e.symm
  refine ⟨m, hn.sameBut sb haC, fun h3 sb3 => ?_⟩
  exact ⟨_, H', I2.turned (t' := s2.toks) (fun b o hb e => (sb3.2 b hb).trans e) f0 f1 f3 f4 f5, q⟩
theorem sw_true {elt : Expr} {gs : List Comprehension} {scope : Scope} {pos py : Pos} {y : Str} {l : Nat} {env : Env} (hk : env.scope.kind = .function) (hy : env.scope.names.lookup y = some .local) (hl : (py.line == pos.line) = true)
    (ha : (scope.names.any fun (n, k) => n == y && (k == .local || k == .cell)) = false) : swapsWith (.ListComp elt gs scope pos) (some (.Name y py)) l env = pure true := by
  have ky : env.kindOf y = some .local := hy
  have hb : env.blockKind = .function := by unfold Env.blockKind; rw [hk]; rfl
  unfold swapsWith
  simp only [hb, ky, ha, Expr.pos, hl]
  rfl
end

/-- over a list that the block leaves as it is -/
theorem lc_list {K : PySem.W.Frag} {a : Addr} {xs : List V} {g : TG} {tt : TT} {te : TE} {vs : List Nat} {σ : St} {H1 : Hp} {D : Addr} {Qd : Hp → Prop} (Pv : Nat → Hp → Prop) (h0 : Pv 0 (upd H1 D (.lst []))) (hl : ∀ i H, i ≤ xs.length → Pv i H → SqL K H a xs)
    (hs : ∀ i x H, xs[i]? = some x → Pv i H → g x (wipe σ vs) H fun σ2 H2 => wipe σ2 vs = wipe σ vs ∧ tt σ2 H2 fun b H3 =>
      if b = true then te σ2 H3 fun y H4 => ∃ acc, H4 D = some (.lst acc) ∧ acc.length < sizeLine ∧ Pv (i + 1) (upd H4 D (.lst (acc ++ [y]))) else Pv (i + 1) H3) (hd : ∀ H, Pv xs.length H → Qd H) :
    ∃ W : Nat → Nat → Hp → Prop, (∃ m, W 0 m (upd H1 D (.lst []))) ∧ ∀ i m H, W i m H →
      ((Itl K a).stop i H ∧ Qd H) ∨ ((Itl K a).go i H ∧ ∃ Nx : Hp → Prop, (∀ H', Nx H' → ∃ m', m' < m ∧ W (i + 1) m' H') ∧ ∀ x H', (Itl K a).yld i H x H' → g x (wipe σ vs) H' fun σ2 H2 => wipe σ2 vs = wipe σ vs ∧ tt σ2 H2 fun b H3 =>
        if b = true then te σ2 H3 fun y H4 => ∃ acc, H4 D = some (.lst acc) ∧ acc.length < sizeLine ∧ Nx (upd H4 D (.lst (acc ++ [y]))) else Nx H3) := by
  refine ⟨fun i m H => m = xs.length - i ∧ i ≤ xs.length ∧ Pv i H, ⟨xs.length, by simp, Nat.zero_le _, h0⟩, ?_⟩
  rintro i m H ⟨rfl, hi, p⟩
  have q := hl i H hi p
  by_cases hlt : i < xs.length
  · refine .inr ⟨⟨xs, xs[i], q, by simp [hlt]⟩, Pv (i + 1), fun H' p' => ⟨xs.length - (i + 1), by omega, rfl, hlt, p'⟩, fun x H' y => ?_⟩
    obtain ⟨e, y⟩ := y
    subst e
    exact hs i x _ (y xs q) p
  · have e : i = xs.length := by omega
    subst e
    exact .inl ⟨⟨xs, q, Nat.le_refl _⟩, hd H p⟩
def blkC (N : List Str) (sc scope : Scope) (own : List (Str × Nat)) : Bool :=
  (match scope.kind with | .function => true | _ => false) && (scope.names.all fun y => decide (scope.names.lookup y.1 = some y.2)) && (own.all fun p => decide (N[p.2]? = some p.1)) &&
    (scope.names.all fun y => match y.2 with
      | .free => (match sc.names.lookup y.1 with | some .cell => true | some .free => true | _ => false)
      | .local => decide (y.1 ∈ own.map (·.1)) || decide (y.1 ∉ N)
      | .cell => decide (y.1 ∈ own.map (·.1)) || decide (y.1 ∉ N)
      | _ => true)
theorem blkOk_by {N : List Str} {sc scope : Scope} {own : List (Str × Nat)} (h : blkC N sc scope own = true) : BlkOk N sc scope own := by
  unfold blkC at h
  simp only [Bool.and_eq_true, List.all_eq_true, decide_eq_true_eq] at h
  obtain ⟨⟨⟨h1, h2⟩, h3⟩, h4⟩ := h
  refine ⟨?_, h2, h3, fun y hy e => ?_, fun y hy e => ?_⟩
  · split at h1
    · assumption
    · cases h1
  · have q := h4 y hy
    simp only [e] at q
    split at q <;> first | exact .inl (by assumption) | exact .inr (by assumption) | cases q
  · have q := h4 y hy
    rcases e with e | e <;> (simp only [e, Bool.or_eq_true, decide_eq_true_eq] at q; exact q)
end L2

namespace L2
open PySem PySem.Spec PyProof.Rows

section
variable {prog : Program} {w : World} {A : Around} {R : Result → Shared → Prop} {s : Shared} {elt t0 i0 t1 i1 : Expr} {ifs0 ifs1 : List Expr} {scope : Scope} {pos : Pos} {it acc : Value} {env : Env}
end

section
variable {X : Cx}
end
end L2

namespace L2
open PySem PySem.Spec PyProof.Rows

section
variable {κ : Type} [DecidableEq κ]
end


section
variable {P : Program} {w : World} {H : Hp} {h : Heap} {a : Addr}
end

section
variable {X : Cx} {pins : List (Addr × Obj)} {σ : St} {H : Hp} {s : Shared} {a : Addr} {y v : V} {u r : Value} {o : Option V} {A : Around} {E : Value → Shared → Prop}

end

section
variable {X : Cx} {pins : List (Addr × Obj)} {σ : St} {H : Hp} {s : Shared} {a : Addr} {kvs : List (Key × V)} {k : Key} {u : Value} {A : Around} {E : Value → Shared → Prop}
end


section
variable {X : Cx} {o i e value : Expr} {pos pos' tpos : Pos} {td ty tv : TE}
end


section
variable {X : Cx} {pos : Pos}
end

/-- a method call o.m(e) of a built-in, with one argument: what must be seen of the text -/
structure M1 (X : Cx) (o : Expr) (m : Str) (apos : Pos) (e : Expr) (cpos : Pos) : Prop where
  base : attributeBase o m X.env (eval o X.env) = eval o X.env
  few : ((backTo cpos (starEach [e] X.env)).all (fun x => !x.1) && (backToKw cpos (keywordEach [] X.env)).all (fun x => x.1.isSome)
    && decide (([e] : List Expr).length + ([] : List Keyword).length + (if ([] : List Keyword).isEmpty then 0 else 1) < 30)) = true
  line : (apos.endLine == cpos.line) = true
  trees : backTo cpos (starEach [e] X.env) = [(false, eval e X.env)]
structure M2 (X : Cx) (o : Expr) (m : Str) (apos : Pos) (e f : Expr) (cpos : Pos) : Prop where
  base : attributeBase o m X.env (eval o X.env) = eval o X.env
  few : ((backTo cpos (starEach [e, f] X.env)).all (fun x => !x.1) && (backToKw cpos (keywordEach [] X.env)).all (fun x => x.1.isSome)
    && decide (([e, f] : List Expr).length + ([] : List Keyword).length + (if ([] : List Keyword).isEmpty then 0 else 1) < 30)) = true
  line : (apos.endLine == cpos.line) = true
  trees : backTo cpos (starEach [e, f] X.env) = [(false, eval e X.env), (false, eval f X.env)]

section
variable {X : Cx} {pins : List (Addr × Obj)} {σ : St} {H : Hp} {s : Shared} {a : Addr} {y d : V} {u r : Value} {o : Option V} {A : Around} {E : Value → Shared → Prop}
end

section
variable {X : Cx} {o e f : Expr} {apos cpos : Pos} {td ty tx : TE}
end

section
variable {X : Cx} {pins : List (Addr × Obj)} {σ : St} {H : Hp} {s : Shared} {a : Addr} {kvs : List (Key × V)} {A : Around} {E : Value → Shared → Prop}
end


section
variable {X : Cx} {pins : List (Addr × Obj)} {σ : St} {H : Hp} {s : Shared} {a : Addr} {y : V} {u : Value} {A : Around} {E : Value → Shared → Prop}
end
end L2

namespace L2
open PySem PySem.Spec PyProof.Rows

section
variable {prog : Program} {w : World} {A : Around} {E : Value → Shared → Prop}
end

section
variable {X : Cx}
end
end L2

namespace L2
open PySem PySem.Spec PyProof.Rows

section
variable {X : Cx} {pins : List (Addr × Obj)} {σ : St} {H : Hp} {s : Shared} {h' : Heap}
/-- .. and one new object is laid -/
theorem Inv.turnedNew {t' : Nat} {ch : List Addr} {T : Addr} {ob : HO} (I : Inv X pins σ H s) (k : ∀ b o, b ∉ ch → s.heap.get? b = some o → h'.get? b = some o) (hf : ∀ b ∈ ch, FpOk X pins H b) (hT : s.heap.objs.size ≤ T)
    (new : ObjOk X.prog X.w (upd H T ob) h' T ob) : Inv X pins σ (upd H T ob) { s with heap := h', toks := t' } := by
  have hn : H T = none := I.hok.fresh hT
  have nit : ∀ b u, H b = some u → b ∉ ch := fun b u e z => by
    have q := (hf b z).1
    rw [q] at e; cases e
  refine I.step (g' := s.gens) (d' := s.drawn) (ch := ch) (fun b hb => ⟨(hf b hb).2.2.2.1, (hf b hb).2.1, (hf b hb).2.2.2.2.1, (hf b hb).2.2.2.2.2⟩) (fun b o _ _ hc e _ => k b o hc e) (fun b o _ _ hc e _ => ⟨o.slots, k b o hc e⟩)
    (fun b o _ e n => ?_) (fun b o hc e => ⟨o, k b o hc e⟩) (fun b xs e => ?_) (fun b o u e => ?_) (fun b ps e => ⟨#[], ?_⟩) (fun m hm => ?_) (fun b u e => ?_) I.bare
  · rw [upd_ne (Nat.ne_of_lt (Nat.lt_of_lt_of_le (Heap.lt_size e) hT))]; exact n
  · rw [upd_ne (ne_of_none e hn)]; exact e
  · rw [upd_ne (ne_of_none e hn)]; exact e
  · rw [upd_ne (ne_of_none e hn), e]; simp
  · obtain ⟨o, es, ep, ho, r⟩ := hm
    exact ⟨o, es, ep, k _ o (fun z => (hf _ z).2.1 rfl) ho, r⟩
  · by_cases hb : b = T
    · subst hb
      rw [upd_same] at e
      cases e
      exact new
    · rw [upd_ne hb] at e
      refine (I.hok b u e).stay (fun c v hc q => k c v ?_ q) (fun c q => by rw [upd_ne (ne_of_none q hn)]; exact q) fun c xs q => by rw [upd_ne (ne_of_none q hn)]; exact q
      rcases hc with z | z
      · rw [z]; exact nit b u e
      · exact nit c _ z

end
section
variable {X : Cx}
end

section
variable {X : Cx} {tg : Expr}
end
section
variable {X : Cx} {tg : Expr}
end

section
variable {prog : Program} {w : World} {A : Around} {E : Value → Shared → Prop} {s : Shared}
end

section
variable {X : Cx} {pins : List (Addr × Obj)} {σ : St} {H : Hp} {s : Shared} {d : Addr} {o : Obj}
end

section
variable {P : Program} {w : World} {K : PySem.W.Frag} {tg : Expr} {d : Addr} {o : Obj} {es : Array DictEntry} {ep : Nat}
end

section
variable {X : Cx} {tg e : Expr} {td : TE} {apos cpos : Pos}
end

/-- the list at a as it stands at each turn, each item in a new pair -/
def Ite (K : PySem.W.Frag) (a : Addr) : It :=
  ⟨fun i H => ∃ (xs : List V) (x : V), SqL K H a xs ∧ xs[i]? = some x, fun i H v H' => ∃ T x, v = .ref T ∧ H T = none ∧ H' = upd H T (.tup [.int (i : Nat), x]) ∧ ∀ xs, SqL K H a xs → xs[i]? = some x, fun i H => ∃ xs : List V, SqL K H a xs ∧ xs.length ≤ i⟩
theorem turn_enum {P : Program} {w : World} {K : PySem.W.Frag} {elts : List Expr} {kk : Nat} {tpos : Pos} (a e it : Addr) :
    Turn P w K (.Tuple elts kk tpos) (Ite K a) [e, it] e (fun i h => (∃ old, IsEnum h e it ((i : Nat) : Int) old) ∧ h.IsListIter it a i ∧ e ≠ it) where
  mem := by simp
  obj := fun i h st b hb => by
    obtain ⟨⟨old, he⟩, ⟨o, ho, hc, hd⟩, _⟩ := st
    have e' : b = e ∨ b = it := by simpa using hb
    rcases e' with z | z
    · rw [z]; exact ⟨_, he, fun v q => nomatch q⟩
    · rw [z]; exact ⟨o, ho, fun v q => by rw [hd] at q; cases q⟩
  keep := fun i h h' st k => let ⟨⟨old, he⟩, hi, hne⟩ := st; ⟨⟨old, k e (by simp) _ he⟩, hi.at fun o q => k it (by simp) o q, hne⟩
  item := by
    intro X hP hw hK hc i pins s σ H E I hf st hg
    subst hP hw hK
    obtain ⟨⟨old, he⟩, hit, hne⟩ := st
    obtain ⟨xs, x, hq, hx⟩ := hg
    obtain ⟨its, rv, p, hz⟩ := I.list hq
    obtain ⟨u, hu, ru⟩ := rv.get hx
    have hel : e < s.heap.objs.size := Heap.lt_size he
    have hil : it < s.heap.objs.size := by obtain ⟨_, q, _⟩ := hit; exact Heap.lt_size q
    refine wpAny_pyNext_enum_item he hit p.isList (x := u) (by simpa using hu) hne fun h' ho hit' hT hsz hk => ?_
    refine ⟨_, rfl, wpAny_letOwnedTupleGo_enum (s := { s with heap := h', toks := s.toks + 1 }) ho fun h'' he' sb => ?_⟩
    have hT2 : h''.get? s.heap.objs.size = some { cls := .type "tuple", data := .seq #[.int i s.toks, u] } := (sb.2 _ (Nat.ne_of_gt hel)).trans hT
    have new : ObjOk X.prog X.w (upd H s.heap.objs.size (.tup [.int (i : Nat), x])) h'' s.heap.objs.size (.tup [.int (i : Nat), x]) :=
      ⟨by show 2 ≤ sizeLine; decide, [.int i s.toks, u], .cons ⟨_, rfl⟩ (.cons ru .nil), ⟨_, hT2, rfl, _, rfl⟩⟩
    have I1 : Inv X pins σ (upd H s.heap.objs.size (.tup [.int (i : Nat), x])) { s with heap := h'', toks := s.toks + 1 } :=
      I.turnedNew (ch := [e, it]) (fun b ob hb q => (sb.2 b (fun z => hb (by simp [z]))).trans (hk b ob (fun z => hb (by simp [z])) (fun z => hb (by simp [z])) q)) hf (Nat.le_refl _) new
    refine ⟨.ref s.heap.objs.size, _, I1, rfl, ⟨_, x, rfl, I.hok.fresh (Nat.le_refl _), rfl, fun ys hy => by rw [I.list_inj hy hq]; exact hx⟩, ⟨⟨u, ?_⟩, hit'.at fun o q => (sb.2 it (Ne.symm hne)).trans q, hne⟩, fun b hb => ?_⟩
    · have e1 : ((i + 1 : Nat) : Int) = (i : Int) + 1 := by omega
      rw [e1]; exact he'
    · have hb' : b < s.heap.objs.size := by
        have e' : b = e ∨ b = it := by simpa using hb
        rcases e' with z | z
        · rw [z]; exact hel
        · rw [z]; exact hil
      rw [upd_ne (Nat.ne_of_lt hb')]
      exact (hf b hb).1
  done := by
    intro X hP hw hK hc i pins s σ H E I hf st hg
    subst hP hw hK
    obtain ⟨⟨old, he⟩, hit, hne⟩ := st
    obtain ⟨xs, hq, hx⟩ := hg
    obtain ⟨its, rv, p, hz⟩ := I.list hq
    obtain ⟨f0, f1, f2, f3, f4, f5⟩ := hf it (by simp)
    have hl := rv.length
    exact wpAny_pyNext_enum_end (I.ok.hd hc) he hit p.isList (by simp; omega) fun h' eb => ⟨rfl, I.turned (t' := s.toks) (fun b o hb q => eb b o hb q) f0 f1 f3 f4 f5⟩
  self := fun A i s Q E st h => let ⟨⟨_, he⟩, _⟩ := st; wpAny_pyIter_enum he h
def iEnum (K : PySem.W.Frag) (ta : TA) : TI := fun σ H R => ta σ H fun vs H1 => ∃ a xs, vs = [.ref a] ∧ SqL K H1 a xs ∧ R (Ite K a) H1
theorem pi_enum {X : Cx} {e : Expr} {ta : TA} {p pos tpos : Pos} {elts : List Expr} {kk : Nat} (hg : Gl X "enumerate") (hm : X.mg "enumerate" = none) (ha : PA X [e] ta) (hs : starEach [e] X.env = [(false, eval e X.env)] := by rfl) :
    PI X (.Tuple elts kk tpos) (.Call (.Name "enumerate" p) [e] [] pos) (iEnum X.K ta) := by
  intro pins s σ H R I h
  refine Call_ (ld_blt I hg hm boot_enumerate (PyProof.Rows.callWith_type1 (thn (ha pos pins s σ H _ I h) fun us s1 ⟨vs, H1, I1, r1, q1⟩ => ?_) hs rfl))
  obtain ⟨a, xs, ex, hq, q⟩ := q1
  subst ex
  cases r1 with
  | cons r rr =>
    cases rr
    cases r
    obtain ⟨its, rv, p', hz⟩ := I1.list hq
    refine call_enumerate_list p'.isList fun h' he hit hsz hk => wpAny_pyIter_enum he ?_
    have I2 : Inv X pins σ H1 { s1 with heap := h' } := I1.kept (t' := s1.toks) hk
    refine ⟨s1.heap.objs.size + 1, [s1.heap.objs.size + 1, s1.heap.objs.size], _, _, H1, rfl, I2, turn_enum a (s1.heap.objs.size + 1) s1.heap.objs.size, ⟨⟨.none, he⟩, hit, Nat.succ_ne_self _⟩, fun b hb => ?_, q⟩
    have e' : b = s1.heap.objs.size + 1 ∨ b = s1.heap.objs.size := by simpa using hb
    have hle : s1.heap.objs.size ≤ b := by
      rcases e' with z | z
      · rw [z]; exact Nat.le_add_right _ _
      · rw [z]; exact Nat.le_refl _
    exact I1.fpOk hle (I1.hok.fresh hle)
end L2

section 
namespace Bits
open PySem PyProof.Rows

end Bits
end 

section 
namespace TL
open PySem PySem.Builtin PySem.Builtin.Str PySem.StrLaws

end TL
end 

namespace L2
open PySem PySem.Spec PyProof.Rows

section
variable {X : Cx} {pins : List (Addr × Obj)} {σ : St} {H : Hp} {s : Shared} {Q : VK}
end

section
variable {X : Cx}

end

section
variable {X : Cx} {o e : Expr} {to te : TE}
end
end L2

namespace L2
open PySem PySem.Spec PyProof.Rows

section
variable {X : Cx}
end

end L2

namespace Att
open PySem PySem.W PySem.Calls PyProof.Rows

section
variable {prog : Program} {w : World} {A : Around} {E : Value → Shared → Prop} {s : Shared} {K : Frag}

end
end Att

namespace L2
open PySem PySem.Spec PyProof.Rows

end L2

namespace L2
open PySem PySem.Spec PyProof.Rows

end L2


namespace L2
open PySem PySem.Spec PyProof.Rows

/-- the j-th statement of a class's body -/
def inClass (s : Stmt) (j : Nat) : Stmt := match s with
  | .ClassDef _ _ _ body _ _ _ _ _ _ _ => body.getD j (.Pass ⟨0, 0, 0, 0⟩)
  | _ => .Pass ⟨0, 0, 0, 0⟩
def defArgs (s : Stmt) : Arguments := match s with
  | .FunctionDef _ a _ _ _ _ _ _ _ _ => a
  | _ => { posonlyargs := [], args := [], vararg := none, kwonlyargs := [], kw_defaults := [], kwarg := none, defaults := [] }
def defBody (s : Stmt) : List Stmt := match s with
  | .FunctionDef _ _ b _ _ _ _ _ _ _ => b
  | _ => []
def defScope (s : Stmt) : Scope := match s with
  | .FunctionDef _ _ _ _ _ _ sc _ _ _ => sc
  | _ => { kind := .function, names := [], isGenerator := false, isCoroutine := false }

abbrev CX0 : CXT := fun _ _ _ _ _ _ => False
abbrev E0 : XK := fun _ _ _ => False
theorem pass0 {X : Cx} : Passes CX0 X E0 := fun _ _ _ _ _ _ _ h => h.elim

structure Fun (K : PySem.W.Frag) (x qual : Str) (st : Stmt) (f : Addr) (fd : FuncData) : Prop where
  ex : ∃ (oc : Value) (od : Option Addr) (kV doc pm : Value) (an : Option Addr) (cdv ct : Value) (osl : Array (Option Value)),
    fd = PySem.W.fnOf x qual (defArgs st) (defBody st) (defScope st) .none kV doc pm an cdv ct ∧ K.lookup f = some ⟨oc, od, .func fd, osl⟩ ∧ PySem.W.codeIn K cdv qual = true
  kp : PySem.W.keepIn K (.ref f) = true
section
variable {P : Program} {w : World} {K : PySem.W.Frag} {mg : Str → Option Value} {base : Heap}
/-- THE RULE for a def: its body as a term of rules, and the reading of that term -/
theorem Fun.ok {x qual : Str} {st : Stmt} {f : Addr} {fd : FuncData} {N ps : List Str} {k : Nat} {sp : Sp} (F : Fun K x qual st f fd) (S : FnScope N ps (defScope st)) (len : ∀ vs H Q E, sp vs H Q E → vs.length = ps.length)
    (hbody : ∀ (cdv : Value) (A : Around) (outer : List Env) (s : Shared) (H : Hp) (vs : List V) (Q : VK) (E : XK), Room k (A.deeper (envOfC qual (defScope st) s.heap.objs.size f cdv)) → sp vs H Q E →
      ∃ t, PSs (cxOf CX0 P w K mg base N qual (defScope st) f cdv A outer s H E).nox (defBody st) t ∧ t { nx := fun _ H' => Q .non H', rt := Q } (start N vs) H) : FnOk P w K mg base CX0 (k + 1) f fd ps sp := by
  obtain ⟨oc, od, kV, doc, pm, an, cdv, ct, osl, rfl, lk, hcd⟩ := F.ex
  refine fn_of lk hcd S len fun A outer s H vs Q E hr hsp => ?_
  obtain ⟨t, h, q⟩ := hbody cdv A outer s H vs Q E hr hsp
  exact ⟨t, h.nox, q⟩
/-- how its arguments bind (no defaults): h is «fun _ _ _ _ _ _ us hl => match us, hl with | [_, _], _ => rfl», one _ a parameter -/
theorem Fun.binds {x qual : Str} {st : Stmt} {f : Addr} {fd : FuncData} {ps : List Str} (F : Fun K x qual st f fd)
    (h : ∀ (kV doc pm : Value) (an : Option Addr) (cdv ct : Value) (us : List Value), us.length = ps.length → bindArgs (PySem.W.fnOf x qual (defArgs st) (defBody st) (defScope st) .none kV doc pm an cdv ct) ⟨us, []⟩ = pure (ps.zip us)) : Binds K fd ps [] := by
  obtain ⟨oc, od, kV, doc, pm, an, cdv, ct, osl, rfl, lk, hcd⟩ := F.ex
  exact .all (h kV doc pm an cdv ct)
theorem fun_mk {x qual : Str} {st : Stmt} {f : Addr} {oc : Value} {od an : Option Addr} {osl : Array (Option Value)} {kV doc pm cdv ct : Value} (l : K.lookup f = some ⟨oc, od, .func (PySem.W.fnOf x qual (defArgs st) (defBody st) (defScope st) .none kV doc pm an cdv ct), osl⟩)
    (c : PySem.W.codeIn K cdv qual = true) (k : PySem.W.keepIn K (.ref f) = true) : Fun K x qual st f (PySem.W.fnOf x qual (defArgs st) (defBody st) (defScope st) .none kV doc pm an cdv ct) := ⟨⟨oc, od, kV, doc, pm, an, cdv, ct, osl, rfl, l, c⟩, k⟩
end
theorem hu_of {A : Around} {k : Nat} (hr : Room k A) : A.units + 1 < cLine := Nat.lt_of_le_of_lt (Nat.add_le_add_left (by decide : 1 ≤ 64) _) hr.units
section
variable {X : Cx}
theorem pv (i : Nat) {x : Str} {pos : Pos} (hN : X.N[i]? = some x := by rfl) (hv : Vis X.env.scope x := by first | exact Or.inl rfl | exact Or.inr (Or.inl rfl) | exact Or.inr (Or.inr rfl)) (hd : (x == ("__debug__" : Str)) = false := by decide)
    (hcd : (x == ("__classdict__" : Str)) = false := by decide) : PE X (.Name x pos) (tVar i) := pe_var hN hv hd hcd
end

theorem iteF {A B : Prop} (h : B) : if false = true then A else B := by
  rw [if_neg Bool.false_ne_true]
  exact h
theorem iteT {A B : Prop} (h : A) : if true = true then A else B := by
  rw [if_pos rfl]
  exact h
theorem ite2 {c A B : Prop} [Decidable c] (h1 : c → A) (h2 : ¬ c → B) : if c then A else B := by
  by_cases h : c
  · rw [if_pos h]
    exact h1 h
  · rw [if_neg h]
    exact h2 h
theorem iteNS {c A B : Prop} [Decidable c] (hc : c) (h : B) : if (!decide c) = true then A else B := by
  rw [decide_eq_true hc]
  exact iteF h

/-- all that was tracked is as it was -/
def Same (H H' : Hp) : Prop := ∀ b o, H b = some o → H' b = some o
theorem Same.refl (H : Hp) : Same H H := fun _ _ h => h
theorem Same.trans {H H1 H2 : Hp} (a : Same H H1) (b : Same H1 H2) : Same H H2 := fun c o h => b c o (a c o h)
theorem Same.free {H H' : Hp} (e : Same H H') {l : Addr} (h : H' l = Option.none) : H l = Option.none := by
  cases q : H l with
  | none => rfl
  | some o =>
    rw [e l o q] at h
    cases h
theorem Same.seq {K : PySem.W.Frag} {H H' : Hp} {a : Addr} {xs : List V} (e : Same H H') (h : SqL K H a xs) : SqL K H' a xs := by
  rcases h with (h | ⟨o, h⟩) | h
  · exact .inl (.inl (e _ _ h))
  · exact .inl (.inr ⟨o, e _ _ h⟩)
  · exact .inr h

section
variable {κ : Type} [DecidableEq κ]
theorem nd_snoc : ∀ {l : List κ} {k : κ}, l.Nodup → ¬ k ∈ l → (l ++ [k]).Nodup
  | [], k, _, _ => by simp
  | a :: r, k, h, hk => by
    obtain ⟨h1, h2⟩ := List.nodup_cons.mp h
    show (a :: (r ++ [k])).Nodup
    refine List.nodup_cons.mpr ⟨fun m => ?_, nd_snoc h2 fun m => hk (List.mem_cons.mpr (Or.inr m))⟩
    rcases List.mem_append.mp m with q | q
    · exact h1 q
    · exact hk (List.mem_cons.mpr (Or.inl (List.mem_singleton.mp q).symm))
end
theorem at_of {xs : List V} {z : Int} {j : Nat} {v : V} (e : z = (j : Int)) (h : xs[j]? = some v) : atI xs z = some v := by
  rw [e]
  exact atI_nat h
theorem nd_ix {α : Type} {l : List α} (hN : l.Nodup) {i j : Nat} {x : α} (a : l[i]? = some x) (b : l[j]? = some x) : i = j := by
  obtain ⟨h1, e1⟩ := List.getElem?_eq_some_iff.mp a
  obtain ⟨h2, e2⟩ := List.getElem?_eq_some_iff.mp b
  exact (List.getElem_inj hN).mp (e1.trans e2.symm)
/-- a new instance and its __init__ leave all that was tracked as it was -/
theorem Same.made {H H1 : Hp} {x dx C : Addr} (nx : H x = Option.none) (nd : H dx = Option.none) (k : ∀ b o, (upd (upd H dx (.own x)) x (.ins C dx [])) b = some o → b ≠ x → H1 b = some o) : Same H H1 := fun b o e =>
  k b o (by rw [upd_ne (ne_of_none e nx), upd_ne (ne_of_none e nd)]; exact e) (ne_of_none e nx)
end L2

end
section
set_option Elab.async false
set_option linter.all false
set_option maxRecDepth 100000
set_option maxHeartbeats 2000000
namespace L2
open PySem PySem.Spec PyProof.Rows
open PySem.W (WData Codec OpenSpec Well WellAll ReadsW ReadsAllW)
/-! ### an answer as data -/
mutual
/-- x stands for the datum d, lists and tuples all the way -/
inductive Dw (K : PySem.W.Frag) (H : Hp) : V → WData → Prop
  | non : Dw K H .non .none
  | bl (b : Bool) : Dw K H (.bl b) (.bool b)
  | int (i : Int) : Dw K H (.int i) (.int i)
  | str (x : Str) : Dw K H (.str x) (.str x)
  | byt (b : Array UInt8) : Dw K H (.byt b) (.bytes b.toList)
  | lst {a : Addr} {xs : List V} {ds : List WData} : SqL K H a xs → DwAll K H xs ds → Dw K H (.ref a) (.list ds)
  | tup {a : Addr} {xs : List V} {ds : List WData} : SqT K H a xs → DwAll K H xs ds → Dw K H (.ref a) (.tuple ds)
inductive DwAll (K : PySem.W.Frag) (H : Hp) : List V → List WData → Prop
  | nil : DwAll K H [] []
  | cons {v : V} {vs : List V} {d : WData} {ds : List WData} : Dw K H v d → DwAll K H vs ds → DwAll K H (v :: vs) (d :: ds)
end
theorem dw_ints {K : PySem.W.Frag} {H : Hp} : ∀ ns : List Int, DwAll K H (ns.map V.int) (ns.map WData.int)
  | [] => .nil
  | n :: r => .cons (.int n) (dw_ints r)
theorem ints_dw {K : PySem.W.Frag} {H : Hp} : ∀ (ns : List Int) (xs : List V), DwAll K H xs (ns.map WData.int) → xs = ns.map V.int
  | [], xs, h => by
    cases h
    rfl
  | n :: r, xs, h => by
    cases h with
    | cons h1 h2 =>
      cases h1
      rw [ints_dw r _ h2] <;> rfl
section
variable {P : Program} {w : World} {K : PySem.W.Frag} {H : Hp} {h : Heap} {R : PySem.W.WRecords} {cl : Str → Option Addr}
theorem sqL_at {a : Addr} {xs : List V} (hok : HOk P w H h) (KX : K.In h) (q : SqL K H a xs) : ∃ (its : List Value) (o : Obj) (n : Nat), Vals xs its ∧ h.get? a = some o ∧ o.cls = .type "list" ∧ o.data = .seq its.toArray n := by
  rcases q with q | ⟨o, its, n, e, hc, _, hd, _, hv⟩
  · obtain ⟨_, its, n, hv, e⟩ := (show ObjOk P w H h a (.lst xs) from q.ok hok)
    exact ⟨its, _, n, hv, e, rfl, rfl⟩
  · exact ⟨its.toList, o, n, hv, KX _ _ e, hc, by simp [hd]⟩
theorem sqT_at {a : Addr} {xs : List V} (hok : HOk P w H h) (KX : K.In h) (q : SqT K H a xs) : ∃ (its : List Value) (o : Obj) (n : Nat), Vals xs its ∧ h.get? a = some o ∧ o.cls = .type "tuple" ∧ o.data = .seq its.toArray n := by
  rcases q with q | ⟨o, its, n, e, hc, hd, _, hv⟩
  · obtain ⟨_, its, hv, o, e, hc, n, hd⟩ := (show ObjOk P w H h a (.tup xs) from q.ok hok)
    exact ⟨its, o, n, hv, e, hc, hd⟩
  · exact ⟨its.toList, o, n, hv, KX _ _ e, hc, by simp [hd]⟩
mutual
theorem Dw.reads (hok : HOk P w H h) (KX : K.In h) : ∀ (d : WData) (v : V) (u : Value), Dw K H v d → RelV v u → ∃ as, ReadsW R cl h u d as
  | .none, _, _, x, r => by
    cases x
    cases r
    exact ⟨_, ReadsW.none⟩
  | .bool b, _, _, x, r => by
    cases x
    cases r
    exact ⟨_, ReadsW.bool b⟩
  | .int i, _, _, x, r => by
    cases x
    obtain ⟨t, rfl⟩ := r
    exact ⟨_, ReadsW.int i t⟩
  | .str s, _, _, x, r => by
    cases x
    obtain ⟨t, rfl⟩ := r
    exact ⟨_, ReadsW.str s t⟩
  | .bytes b, _, _, x, r => by
    cases x
    obtain ⟨t, rfl⟩ := r
    exact ⟨_, ReadsW.bytes _ t⟩
  | .list ds, _, _, x, r => by
    cases x with
    | lst hs ha =>
      cases r
      obtain ⟨its, o, n, rv, ho, hc, hd⟩ := sqL_at hok KX hs
      obtain ⟨as, hr⟩ := Dw.readsAll hok KX ds _ its ha rv
      exact ⟨_, ReadsW.list ho hc hd hr⟩
  | .tuple ds, _, _, x, r => by
    cases x with
    | tup hs ha =>
      cases r
      obtain ⟨its, o, n, rv, ho, hc, hd⟩ := sqT_at hok KX hs
      obtain ⟨as, hr⟩ := Dw.readsAll hok KX ds _ its ha rv
      exact ⟨_, ReadsW.tuple ho hc hd hr⟩
  | .float _, _, _, x, _ => by cases x
  | .dict _, _, _, x, _ => by cases x
  | .bytearray _, _, _, x, _ => by cases x
  | .set _, _, _, x, _ => by cases x
  | .frozenset _, _, _, x, _ => by cases x
  | .obj _ _, _, _, x, _ => by cases x
theorem Dw.readsAll (hok : HOk P w H h) (KX : K.In h) : ∀ (ds : List WData) (vs : List V) (us : List Value), DwAll K H vs ds → Vals vs us → ∃ as, ReadsAllW R cl h us ds as
  | [], _, _, x, r => by
    cases x
    cases r
    exact ⟨_, ReadsAllW.nil⟩
  | d :: ds, _, _, x, r => by
    cases x with
    | cons h1 h2 =>
      cases r with
      | cons r1 r2 =>
        obtain ⟨as, q1⟩ := Dw.reads hok KX d _ _ h1 r1
        obtain ⟨bs, q2⟩ := Dw.readsAll hok KX ds _ _ h2 r2
        exact ⟨_, ReadsAllW.cons q1 q2⟩
end
end
/-! ### the arguments -/
mutual
/-- data that a codec tells -/
def plW : WData → Bool
  | .none => true
  | .bool _ => true
  | .int _ => true
  | .str _ => true
  | .bytes _ => true
  | .list xs => plWs xs
  | .tuple xs => plWs xs
  | _ => false
def plWs : List WData → Bool
  | [] => true
  | x :: r => plW x && plWs r
end
theorem plWs_map {α : Type} {f : α → WData} (h : ∀ a, plW (f a) = true) : ∀ l : List α, plWs (l.map f) = true
  | [] => rfl
  | x :: r => by
    show (plW (f x) && plWs (r.map f)) = true
    rw [h x, plWs_map h r] <;> rfl
theorem pl_enc : ∀ (c : Codec) (a : c.denote), plW (c.enc a) = true
  | .unit, _ => rfl
  | .bool, _ => rfl
  | .int _ _, _ => rfl
  | .nat _ _, _ => rfl
  | .u8, _ => rfl
  | .bytes _ _, _ => rfl
  | .text _ _ _ _, _ => rfl
  | .list _ _ c, a => plWs_map (fun x => pl_enc c x) a
  | .pair c d, a => by
    show (plW (c.enc a.1) && (plW (d.enc a.2) && true)) = true
    rw [pl_enc c a.1, pl_enc d a.2] <;> rfl
  | .triple c d e, a => by
    show (plW (c.enc a.1) && (plW (d.enc a.2.1) && (plW (e.enc a.2.2) && true))) = true
    rw [pl_enc c a.1, pl_enc d a.2.1, pl_enc e a.2.2] <;> rfl
  | .option c, none => rfl
  | .option c, some x => pl_enc c x
theorem pl_encAll : ∀ (cs : List Codec) (a : Codec.denoteAll cs), plWs (Codec.encAll cs a) = true
  | [], _ => rfl
  | c :: cs, a => by
    show (plW (c.enc a.1) && plWs (Codec.encAll cs a.2)) = true
    rw [pl_enc c a.1, pl_encAll cs a.2] <;> rfl
theorem weight_mem : ∀ {xs : List WData} {d : WData}, d ∈ xs → d.weight ≤ WData.weightAll xs
  | [], d, h => absurd h (by simp)
  | x :: r, d, h => by
    show d.weight ≤ x.weight + 1 + WData.weightAll r
    rcases List.mem_cons.mp h with e | m
    · rw [e]
      omega
    · have z := weight_mem m
      omega
def toV : Value → V
  | .none => .non
  | .bool b => .bl b
  | .int i _ => .int i
  | .str x _ => .str x
  | .bytes b _ => .byt b
  | .ref a => .ref a
  | _ => .non
/-- a value of the arguments, its objects among A -/
def OkU (A : List Addr) : Value → Prop
  | .none => True
  | .bool _ => True
  | .int _ _ => True
  | .str _ _ => True
  | .bytes _ _ => True
  | .ref a => a ∈ A
  | _ => False
theorem OkU.mono {A B : List Addr} (h : ∀ a ∈ A, a ∈ B) : ∀ {u : Value}, OkU A u → OkU B u := fun {u} x => by
  cases u with
  | ref a => exact h a x
  | none => trivial
  | bool b => trivial
  | int i t => trivial
  | str s t => trivial
  | bytes b t => trivial
  | _ => exact False.elim x
theorem relV_toV {A : List Addr} {u : Value} (x : OkU A u) : RelV (toV u) u := by
  cases u with
  | ref a => rfl
  | none => rfl
  | bool b => rfl
  | int i t => exact ⟨t, rfl⟩
  | str s t => exact ⟨t, rfl⟩
  | bytes b t => exact ⟨t, rfl⟩
  | _ => exact False.elim x
theorem vals_toV {A : List Addr} : ∀ {vs : List Value}, (∀ u ∈ vs, OkU A u) → Vals (vs.map toV) vs
  | [], _ => .nil
  | u :: r, h => .cons (relV_toV (h u (List.mem_cons_self ..))) (vals_toV fun x hx => h x (List.mem_cons_of_mem _ hx))
/-- an object of the arguments -/
def ArgOb (h : Heap) (A : List Addr) (a : Addr) : Prop := ∃ vs : List Value, vs.length ≤ sizeLine ∧ (∀ u ∈ vs, OkU A u) ∧
  (h.get? a = some { cls := .type "list", data := .seq vs.toArray } ∨ h.get? a = some { cls := .type "tuple", data := .seq vs.toArray })
theorem ArgOb.mono {h : Heap} {A B : List Addr} {a : Addr} (k : ∀ a ∈ A, a ∈ B) (x : ArgOb h A a) : ArgOb h B a := by
  obtain ⟨vs, h1, h2, h3⟩ := x
  exact ⟨vs, h1, fun u hu => (h2 u hu).mono k, h3⟩
theorem wellAll_len {P : Params} {h : Heap} : ∀ {vs : List Value} {ds : List WData}, WellAll P h vs ds → vs.length = ds.length
  | _, _, .nil => rfl
  | _, _, .cons _ b => by
    show _ + 1 = _ + 1
    rw [wellAll_len b]
theorem well_list {P : Params} {h : Heap} {v : Value} {ds : List WData} (x : Well P h v (.list ds)) : ∃ (a : Addr) (vs : List Value), v = .ref a ∧ h.get? a = some { cls := .type "list", data := .seq vs.toArray } ∧ WellAll P h vs ds := by
  cases x with
  | list ho hall => exact ⟨_, _, rfl, ho, hall⟩
theorem well_tuple {P : Params} {h : Heap} {v : Value} {ds : List WData} (x : Well P h v (.tuple ds)) : ∃ (a : Addr) (vs : List Value), v = .ref a ∧ h.get? a = some { cls := .type "tuple", data := .seq vs.toArray } ∧ WellAll P h vs ds := by
  cases x with
  | tuple ho hall => exact ⟨_, _, rfl, ho, hall⟩
theorem well_cons {P : Params} {h : Heap} {us : List Value} {d : WData} {ds : List WData} (x : WellAll P h us (d :: ds)) : ∃ (v : Value) (vs : List Value), us = v :: vs ∧ Well P h v d ∧ WellAll P h vs ds := by
  cases x with
  | cons a b => exact ⟨_, _, rfl, a, b⟩
theorem line_of {n : Nat} (h : n ≤ 1048576) : n ≤ sizeLine := Nat.le_trans h (by decide)
section
variable {P : Params} {h : Heap}
mutual
theorem area_one : ∀ (d : WData) (v : Value), Well P h v d → plW d = true → d.weight ≤ 1048576 → ∃ A : List Addr, OkU A v ∧ ∀ a ∈ A, ArgOb h A a
  | .none, _, x, _, _ => by
    cases x
    exact ⟨[], trivial, fun a m => absurd m (by simp)⟩
  | .bool b, _, x, _, _ => by
    cases x
    exact ⟨[], trivial, fun a m => absurd m (by simp)⟩
  | .int i, _, x, _, _ => by
    cases x
    exact ⟨[], trivial, fun a m => absurd m (by simp)⟩
  | .str s, _, x, _, _ => by
    cases x
    exact ⟨[], trivial, fun a m => absurd m (by simp)⟩
  | .bytes b, _, x, _, _ => by
    cases x
    exact ⟨[], trivial, fun a m => absurd m (by simp)⟩
  | .list ds, _, x, p, z => by
    obtain ⟨a, vs, rfl, ho, hall⟩ := well_list x
    have z2 : WData.weightAll ds ≤ 1048576 := z
    obtain ⟨A, h1, h2⟩ := area_all ds _ hall p fun d hd => Nat.le_trans (weight_mem hd) z2
    have k : ∀ b ∈ A, b ∈ a :: A := fun b hb => List.mem_cons_of_mem _ hb
    refine ⟨a :: A, List.mem_cons_self .., fun b hb => ?_⟩
    rcases List.mem_cons.mp hb with e | m
    · rw [e]
      exact ⟨vs, line_of (by rw [wellAll_len hall]; exact Nat.le_trans (PySem.W.length_le_weightAllW ds) z2), fun u hu => (h1 u hu).mono k, .inl ho⟩
    · exact (h2 b m).mono k
  | .tuple ds, _, x, p, z => by
    obtain ⟨a, vs, rfl, ho, hall⟩ := well_tuple x
    have z2 : WData.weightAll ds ≤ 1048576 := z
    obtain ⟨A, h1, h2⟩ := area_all ds _ hall p fun d hd => Nat.le_trans (weight_mem hd) z2
    have k : ∀ b ∈ A, b ∈ a :: A := fun b hb => List.mem_cons_of_mem _ hb
    refine ⟨a :: A, List.mem_cons_self .., fun b hb => ?_⟩
    rcases List.mem_cons.mp hb with e | m
    · rw [e]
      exact ⟨vs, line_of (by rw [wellAll_len hall]; exact Nat.le_trans (PySem.W.length_le_weightAllW ds) z2), fun u hu => (h1 u hu).mono k, .inr ho⟩
    · exact (h2 b m).mono k
  | .float _, _, _, p, _ => Bool.noConfusion (show false = true from p)
  | .dict _, _, _, p, _ => Bool.noConfusion (show false = true from p)
  | .bytearray _, _, _, p, _ => Bool.noConfusion (show false = true from p)
  | .set _, _, _, p, _ => Bool.noConfusion (show false = true from p)
  | .frozenset _, _, _, p, _ => Bool.noConfusion (show false = true from p)
  | .obj _ _, _, _, p, _ => Bool.noConfusion (show false = true from p)
theorem area_all : ∀ (ds : List WData) (vs : List Value), WellAll P h vs ds → plWs ds = true → (∀ d ∈ ds, d.weight ≤ 1048576) → ∃ A : List Addr, (∀ u ∈ vs, OkU A u) ∧ ∀ a ∈ A, ArgOb h A a
  | [], _, x, _, _ => by
    cases x
    exact ⟨[], fun u m => absurd m (by simp), fun a m => absurd m (by simp)⟩
  | d :: ds, _, x, p, z => by
    obtain ⟨v, vs, rfl, x1, x2⟩ := well_cons x
    have q : plW d = true ∧ plWs ds = true := Bool.and_eq_true_iff.mp p
    obtain ⟨A, a1, a2⟩ := area_one d v x1 q.1 (z d (List.mem_cons_self ..))
    obtain ⟨B, b1, b2⟩ := area_all ds vs x2 q.2 fun e he => z e (List.mem_cons_of_mem _ he)
    have kA : ∀ b ∈ A, b ∈ A ++ B := fun b hb => List.mem_append.mpr (.inl hb)
    have kB : ∀ b ∈ B, b ∈ A ++ B := fun b hb => List.mem_append.mpr (.inr hb)
    refine ⟨A ++ B, fun u hu => ?_, fun b hb => ?_⟩
    · rcases List.mem_cons.mp hu with e | m
      · rw [e]
        exact a1.mono kA
      · exact (b1 u m).mono kB
    · rcases List.mem_append.mp hb with m | m
      · exact (a2 b m).mono kA
      · exact (b2 b m).mono kB
end
end
/-- what is tracked of an argument's object -/
def hoOf (o : Obj) : Option HO := match o.data with
  | .seq vs _ => if (o.cls == Value.type "list") = true then some (.frz o (.lst (vs.toList.map toV))) else some (.frz o (.tup (vs.toList.map toV)))
  | _ => none
def argH (K : PySem.W.Frag) (h : Heap) (A : List Addr) : Hp := fun b => if b ∈ A then (if (K.lookup b).isNone = true then (h.get? b).bind hoOf else none) else none
/-- nothing is tracked but what is known to the object -/
def OnlyF (H : Hp) : Prop := ∀ b, H b = none ∨ ∃ o u, H b = some (.frz o u)
theorem hoOf_lst (vs : List Value) : hoOf { cls := .type "list", data := .seq vs.toArray } = some (.frz { cls := .type "list", data := .seq vs.toArray } (.lst (vs.map toV))) := by
  show (if (Value.type "list" == Value.type "list") = true then some (HO.frz { cls := .type "list", data := .seq vs.toArray } (.lst (vs.toArray.toList.map toV))) else some (HO.frz { cls := .type "list", data := .seq vs.toArray } (.tup (vs.toArray.toList.map toV)))) = _
  rw [if_pos (beq_self_eq_true _)]
theorem hoOf_tup (vs : List Value) : hoOf { cls := .type "tuple", data := .seq vs.toArray } = some (.frz { cls := .type "tuple", data := .seq vs.toArray } (.tup (vs.map toV))) := by
  show (if (Value.type "tuple" == Value.type "list") = true then some (HO.frz { cls := .type "tuple", data := .seq vs.toArray } (.lst (vs.toArray.toList.map toV))) else some (HO.frz { cls := .type "tuple", data := .seq vs.toArray } (.tup (vs.toArray.toList.map toV)))) = _
  rw [if_neg (by decide)]
section
variable {P : Program} {w : World} {K : PySem.W.Frag} {h : Heap} {A : List Addr}
theorem argH_at {b : Addr} {o : Obj} (hb : b ∈ A) (hk : K.lookup b = none) (e : h.get? b = some o) : argH K h A b = hoOf o := by
  unfold argH
  rw [if_pos hb, hk, if_pos (show (none : Option Obj).isNone = true from rfl), e] <;> rfl
theorem of_argH {b : Addr} {u : HO} (q : argH K h A b = some u) : b ∈ A ∧ K.lookup b = none := by
  unfold argH at q
  by_cases hb : b ∈ A
  · rw [if_pos hb] at q
    cases hk : K.lookup b with
    | none => exact ⟨hb, rfl⟩
    | some o =>
      rw [hk, if_neg (by simp)] at q
      cases q
  · rw [if_neg hb] at q
    cases q
/-- what stands tracked -/
theorem argH_is (ar : ∀ a ∈ A, ArgOb h A a) {b : Addr} {u : HO} (q : argH K h A b = some u) : K.lookup b = none ∧ ∃ vs : List Value, vs.length ≤ sizeLine ∧ (∀ u ∈ vs, OkU A u) ∧
    ((h.get? b = some { cls := .type "list", data := .seq vs.toArray } ∧ u = .frz { cls := .type "list", data := .seq vs.toArray } (.lst (vs.map toV))) ∨
     (h.get? b = some { cls := .type "tuple", data := .seq vs.toArray } ∧ u = .frz { cls := .type "tuple", data := .seq vs.toArray } (.tup (vs.map toV)))) := by
  obtain ⟨hb, hk⟩ := of_argH q
  obtain ⟨vs, h1, h2, h3⟩ := ar b hb
  refine ⟨hk, vs, h1, h2, ?_⟩
  rcases h3 with e | e
  · rw [argH_at hb hk e, hoOf_lst] at q
    exact .inl ⟨e, (Option.some.inj q).symm⟩
  · rw [argH_at hb hk e, hoOf_tup] at q
    exact .inr ⟨e, (Option.some.inj q).symm⟩
theorem argH_only (ar : ∀ a ∈ A, ArgOb h A a) : OnlyF (argH K h A) := fun b => by
  cases q : argH K h A b with
  | none => exact .inl rfl
  | some u =>
    obtain ⟨_, vs, _, _, ⟨_, e⟩ | ⟨_, e⟩⟩ := argH_is ar q
    · exact .inr ⟨_, _, by rw [e]⟩
    · exact .inr ⟨_, _, by rw [e]⟩
theorem argH_ok (ar : ∀ a ∈ A, ArgOb h A a) : HOk P w (argH K h A) h := fun b u q => by
  obtain ⟨_, vs, h1, h2, ⟨e, rfl⟩ | ⟨e, rfl⟩⟩ := argH_is ar q
  · exact ⟨e, by rw [List.length_map]; exact h1, vs, _, vals_toV h2, e⟩
  · exact ⟨e, by rw [List.length_map]; exact h1, vs, vals_toV h2, _, e, rfl, _, rfl⟩
theorem seq_inj {c c' : Value} {vs us : List Value} (e : (some { cls := c, data := .seq vs.toArray } : Option Obj) = some { cls := c', data := .seq us.toArray }) : c = c' ∧ vs = us := by
  have e1 := Option.some.inj e
  have e2 : c = c' := congrArg Obj.cls e1
  have e3 : Data.seq vs.toArray = Data.seq us.toArray := congrArg Obj.data e1
  injection e3 with e4
  refine ⟨e2, ?_⟩
  have e5 := congrArg Array.toList e4
  simpa using e5
/-- a list argument -/
theorem argL (KX : K.In h) (ar : ∀ a ∈ A, ArgOb h A a) {a : Addr} {vs : List Value} (ha : a ∈ A) (e : h.get? a = some { cls := .type "list", data := .seq vs.toArray }) : (∀ u ∈ vs, OkU A u) ∧ SqL K (argH K h A) a (vs.map toV) := by
  obtain ⟨us, h1, h2, h3⟩ := ar a ha
  have hu : us = vs := by
    rcases h3 with q | q
    · rw [e] at q
      exact (seq_inj q).2.symm
    · rw [e] at q
      exact absurd (Value.type.inj (seq_inj q).1) (by decide)
  subst hu
  refine ⟨h2, ?_⟩
  cases hk : K.lookup a with
  | none => exact .inl (.inr ⟨_, by rw [argH_at ha hk e, hoOf_lst]⟩)
  | some o =>
    have e2 := KX a o hk
    rw [e] at e2
    obtain rfl := Option.some.inj e2
    exact .inr ⟨_, us.toArray, _, hk, rfl, rfl, rfl, by rw [List.size_toArray]; exact h1, by simpa using vals_toV h2⟩
theorem argT (KX : K.In h) (ar : ∀ a ∈ A, ArgOb h A a) {a : Addr} {vs : List Value} (ha : a ∈ A) (e : h.get? a = some { cls := .type "tuple", data := .seq vs.toArray }) : (∀ u ∈ vs, OkU A u) ∧ SqT K (argH K h A) a (vs.map toV) := by
  obtain ⟨us, h1, h2, h3⟩ := ar a ha
  have hu : us = vs := by
    rcases h3 with q | q
    · rw [e] at q
      exact absurd (Value.type.inj (seq_inj q).1) (by decide)
    · rw [e] at q
      exact (seq_inj q).2.symm
  subst hu
  refine ⟨h2, ?_⟩
  cases hk : K.lookup a with
  | none => exact .inl (.inr ⟨_, by rw [argH_at ha hk e, hoOf_tup]⟩)
  | some o =>
    have e2 := KX a o hk
    rw [e] at e2
    obtain rfl := Option.some.inj e2
    exact .inr ⟨_, us.toArray, _, hk, rfl, rfl, by rw [List.size_toArray]; exact h1, by simpa using vals_toV h2⟩
mutual
theorem dw_one {Pm : Params} (KX : K.In h) (ar : ∀ a ∈ A, ArgOb h A a) : ∀ (d : WData) (v : Value), Well Pm h v d → plW d = true → OkU A v → Dw K (argH K h A) (toV v) d
  | .none, _, x, _, _ => by
    cases x
    exact .non
  | .bool b, _, x, _, _ => by
    cases x
    exact .bl b
  | .int i, _, x, _, _ => by
    cases x
    exact .int i
  | .str s, _, x, _, _ => by
    cases x
    exact .str s
  | .bytes b, _, x, _, _ => by
    cases x
    have z := Dw.byt (K := K) (H := argH K h A) b.toArray
    exact z
  | .list ds, _, x, p, hu => by
    obtain ⟨a, vs, rfl, ho, hall⟩ := well_list x
    obtain ⟨h2, hs⟩ := argL KX ar hu ho
    exact .lst hs (dw_all KX ar ds _ hall p h2)
  | .tuple ds, _, x, p, hu => by
    obtain ⟨a, vs, rfl, ho, hall⟩ := well_tuple x
    obtain ⟨h2, hs⟩ := argT KX ar hu ho
    exact .tup hs (dw_all KX ar ds _ hall p h2)
  | .float _, _, _, p, _ => Bool.noConfusion (show false = true from p)
  | .dict _, _, _, p, _ => Bool.noConfusion (show false = true from p)
  | .bytearray _, _, _, p, _ => Bool.noConfusion (show false = true from p)
  | .set _, _, _, p, _ => Bool.noConfusion (show false = true from p)
  | .frozenset _, _, _, p, _ => Bool.noConfusion (show false = true from p)
  | .obj _ _, _, _, p, _ => Bool.noConfusion (show false = true from p)
theorem dw_all {Pm : Params} (KX : K.In h) (ar : ∀ a ∈ A, ArgOb h A a) : ∀ (ds : List WData) (vs : List Value), WellAll Pm h vs ds → plWs ds = true → (∀ u ∈ vs, OkU A u) → DwAll K (argH K h A) (vs.map toV) ds
  | [], _, x, _, _ => by
    cases x
    exact .nil
  | d :: ds, _, x, p, hu => by
    obtain ⟨v, vs, rfl, x1, x2⟩ := well_cons x
    have q : plW d = true ∧ plWs ds = true := Bool.and_eq_true_iff.mp p
    exact .cons (dw_one KX ar d v x1 q.1 (hu _ (List.mem_cons_self ..))) (dw_all KX ar ds vs x2 q.2 fun u m => hu u (List.mem_cons_of_mem _ m))
end
end
/-! ### the call -/
theorem spec_call {P : Program} {w : World} {K : PySem.W.Frag} {mg mb : Str → Option Value} {CX : CXT} {k : Nat} {fa : Addr} {fd : FuncData} {ps : List Str} {sp : Sp} {s₁ : Shared} {vals : List Value} {ds : List WData} {R : PySem.W.WRecords} {cl : Str → Option Addr} {d0 : WData}
    (KX : K.In s₁.heap) (hns : s₁.heap.Ns mainGlobals mg) (hb : s₁.heap.Ns builtinsNs mb) (hbb : ∀ x : Str, x ≠ "__name__" → mb x = bootBuiltins x) (hlim : s₁.heap.NoLimit) (hg : s₁.gens = #[])
    (hwl : WellAll w.params s₁.heap vals ds) (hpl : plWs ds = true) (hwt : ∀ d ∈ ds, d.weight ≤ 1048576) (hr : Room k callerA)
    (F : ∀ base : Heap, K.In base → base.Ns mainGlobals mg → FnOk P w K mg base CX k fa fd ps sp) (hbind : ∀ (s : Shared) (us : List Value), us.length = ps.length → BindsTo s fd ⟨us, []⟩ (ps.zip us)) (hlen : ds.length = ps.length)
    (hsp : ∀ (H : Hp) (xs : List V), OnlyF H → DwAll K H xs ds → sp xs H (fun v H' => Dw K H' v d0) fun _ _ _ => False)
    (hCX : ∀ H e s', CX [] H s₁ (fun _ _ _ => False) e s' → False) :
    codeAny (model P w) callerA (.call (.ref fa) ⟨vals, []⟩) (fun r s' => ∃ u as, r = .ok (.ret u) ∧ ReadsW R cl s'.heap u d0 as ∧ OldK s₁.heap s'.heap ∧ s'.os = s₁.os ∧ AllBare s'.gens) s₁ := by
  obtain ⟨A, ho, ar⟩ := area_all ds vals hwl hpl hwt
  have hO : OnlyF (argH K s₁.heap A) := argH_only ar
  have hok : HOk P w (argH K s₁.heap A) s₁.heap := argH_ok ar
  have hS := dw_all KX ar ds vals hwl hpl ho
  have hV := vals_toV ho
  have hK : ∀ b u, argH K s₁.heap A b = some u → K.lookup b = none := fun b u q => (argH_is ar q).1
  have noA : ∀ {b : Addr} {o : Obj} {es : Array DictEntry} {ep : Nat}, s₁.heap.get? b = some o → o.data = .dict es ep → argH K s₁.heap A b = none := fun {b o es ep} e d => by
    cases q : argH K s₁.heap A b with
    | none => rfl
    | some u =>
      obtain ⟨_, vs, _, _, ⟨e2, _⟩ | ⟨e2, _⟩⟩ := argH_is ar q
      · rw [e2] at e
        cases e
        have d' : Data.seq vs.toArray _ = Data.dict es ep := d
        cases d'
      · rw [e2] at e
        cases e
        have d' : Data.seq vs.toArray _ = Data.dict es ep := d
        cases d'
  generalize argH K s₁.heap A = H at hO hok hS hK noA
  have base_of : ∀ {b : Addr} {o : Obj}, s₁.heap.get? b = some o → H b = none → (hidT s₁.heap H).get? b = some o := fun e n => hidT_get e n
  have nsK : ∀ {b : Addr} {m : Str → Option Value}, s₁.heap.Ns b m → (hidT s₁.heap H).Ns b m := fun {b m} ⟨o, es, ep, e, d, r⟩ => ⟨o, es, ep, base_of e (noA e d), d, r⟩
  have nK : ∀ b o, K.lookup b = some o → H b = none := fun b o e => by
    cases q : H b with
    | none => rfl
    | some u =>
      rw [hK b u q] at e
      cases e
  have hKb : K.In (hidT s₁.heap H) := fun b o e => base_of (KX b o e) (nK b o e)
  have hM : Mod K mg (hidT s₁.heap H) := ⟨hKb, nsK hns, ⟨mb, nsK hb, hbb⟩, let ⟨mc, h1, h2⟩ := hlim; ⟨mc, nsK h1, h2⟩⟩
  have e0 : Env0 P w K mg (hidT s₁.heap H) callerA [] s₁ H := ⟨rfl, hM, fun b o e => of_hidT e, Nat.le_of_eq (hidT_size _ _), trivial, fun b hb => absurd (show b ∈ ([] : List Addr) from hb) (by simp), hok, .of_eq hg⟩
  have hl : vals.length = ps.length := by rw [wellAll_len hwl]; exact hlen
  refine codeAny_mono ((F _ hKb (nsK hns)).run callerA [] s₁ H ⟨vals, []⟩ vals (vals.map toV) _ _ hr e0 (hbind s₁ vals hl) hV (hsp H _ hO hS)) fun r s' x => ?_
  cases r with
  | error e => exact (hCX H e s' x).elim
  | ok fl =>
    cases fl with
    | next => exact False.elim x
    | brk => exact False.elim x
    | cont => exact False.elim x
    | ret u =>
      obtain ⟨v, H', os, bare, un, hok', r', q⟩ := x
      have kept : ∀ b o, s₁.heap.get? b = some o → s'.heap.get? b = some o := fun b o e => by
        cases q2 : H b with
        | none => exact un.keep b o e q2 (by intro z; exact absurd (show b ∈ ([] : List Addr) from z) (by simp)) (by simp)
        | some u2 =>
          rcases hO b with z | ⟨ob, u3, z⟩
          · rw [q2] at z
            cases z
          · have z2 := un.frzs b ob _ z
            obtain ⟨e1, _⟩ := hok b _ z
            obtain ⟨e2, _⟩ := hok' b _ z2
            rw [e] at e1
            cases e1
            exact e2
      have KX' : K.In s'.heap := fun b o e => kept b o (KX b o e)
      obtain ⟨as, hrd⟩ := Dw.reads (R := R) (cl := cl) hok' KX' d0 v u q r'
      exact ⟨u, as, rfl, hrd, OldK.of_keep kept, os, bare⟩
/-! ### the row -/
theorem layable_weight {ds : List WData} (h : WData.layableAll ds = true) : ∀ d ∈ ds, d.weight ≤ 1048576 := fun d hd =>
  (PySem.W.layableW_iff.mp (List.all_eq_true.mp h d hd)).2.2
theorem encAll_len : ∀ (cs : List Codec) (a : Codec.denoteAll cs), (Codec.encAll cs a).length = cs.length
  | [], _ => rfl
  | c :: cs, a => by
    show (Codec.encAll cs a.2).length + 1 = cs.length + 1
    rw [encAll_len cs a.2]
/-- the goal that k_headS leaves (case hc), from the promise of the row's def: whatever the arguments that the codecs let and the row asks for, the def gives what stands for enc (f ..) -/
theorem walk_spec {r : OpenSpec} {k : Nat} {q : Program} {loose : List Str} {XP : (Str → Option Value) → Heap → Prop} {YP : World → Heap → Prop} {d : DefRec} {K : Params → PySem.W.Frag} {CX : World → CXT} {ps : List Str} {sp : World → Sp}
    (hwell : r.wellSaid = true) (hdf : d.params.defaults = []) (hlen : r.args.length = ps.length) (hr : Room k callerA)
    (hY : ∀ (w : World) (h : Heap), YP w h → (K w.params).In h)
    (F : ∀ (w : World) (mg : Str → Option Value) (fa : Addr) (h : Heap), YP w h → (K w.params).In h → h.Ns mainGlobals mg → mg d.name = some (.ref fa) →
      ∃ fd : FuncData, (∀ (s : Shared) (us : List Value), us.length = ps.length → BindsTo s fd ⟨us, []⟩ (ps.zip us)) ∧
        ∀ base : Heap, (K w.params).In base → base.Ns mainGlobals mg → FnOk r.prog w (K w.params) mg base (CX w) k fa fd ps (sp w))
    (hsp : ∀ (w : World) (H : Hp) (xs : List V) (a : Codec.denoteAll r.args), OnlyF H → Codec.withinAll r.args a = true → Codec.app r.args r.asked a = true → DwAll (K w.params) H xs (Codec.encAll r.args a) →
      sp w xs H (fun v H' => Dw (K w.params) H' v (r.ret.enc (Codec.app r.args r.f a))) fun _ _ _ => False)
    (hCX : ∀ (w : World) (H : Hp) (s : Shared) (e : Value) (s' : Shared), CX w [] H s (fun _ _ _ => False) e s' → False) :
    PySem.W.WalkOS q loose XP YP r d [] (fun f vs => PySem.call f vs) := by
  intro w s_0 s₁ mg mb G Y fa o pm cd doc dV kV ho hd hcd hD hmg hg args vals as hpre hlay hrd hwl hlo
  obtain ⟨a, e1, e2⟩ := PySem.W.os_pre_some hpre
  obtain ⟨e3, hwi⟩ := Codec.encAll_of_decAll r.args args a e1
  subst e3
  have KX := hY w _ Y
  obtain ⟨fd, hb, hF⟩ := F w mg fa _ Y KX G.T.g hmg
  refine PySem.W.enter_call (codeAny_mono (spec_call (R := []) (cl := classAt s_0.heap) (d0 := r.ret.enc (Codec.app r.args r.f a)) KX G.T.g G.T.b G.T.builtins G.T.nolimit hg hwl (pl_encAll _ _) (layable_weight hlay) hr hF hb (by rw [encAll_len]; exact hlen)
    (fun H xs hO hS => hsp w H xs a hO hwi e2 hS) fun H e s' => hCX w H s₁ e s') fun r' s' hq => ?_)
  obtain ⟨u, as', rfl, h1, h2, h3, h4⟩ := hq
  exact ⟨.inl ⟨u, _, as', rfl, fun _ => rfl, h1, (OpenSpec.post_iff hwell hwi _ _).mpr rfl, fun z => Bool.noConfusion (show false = true from z)⟩, h2, h3, h4⟩
/-- the same where the promise hangs on the written part alone -/
theorem walk_specK {r : OpenSpec} {k : Nat} {q : Program} {loose : List Str} {XP : (Str → Option Value) → Heap → Prop} {YP : World → Heap → Prop} {d : DefRec} {K : Params → PySem.W.Frag} {CX : CXT} {ps : List Str} {sp : PySem.W.Frag → Sp}
    (hwell : r.wellSaid = true) (hdf : d.params.defaults = []) (hlen : r.args.length = ps.length) (hr : Room k callerA)
    (hY : ∀ (w : World) (h : Heap), YP w h → (K w.params).In h)
    (F : ∀ (w : World) (mg : Str → Option Value) (fa : Addr) (h : Heap), YP w h → (K w.params).In h → h.Ns mainGlobals mg → mg d.name = some (.ref fa) →
      ∃ fd : FuncData, (∀ (s : Shared) (us : List Value), us.length = ps.length → BindsTo s fd ⟨us, []⟩ (ps.zip us)) ∧
        ∀ base : Heap, (K w.params).In base → base.Ns mainGlobals mg → FnOk r.prog w (K w.params) mg base CX k fa fd ps (sp (K w.params)))
    (hsp : ∀ (K : PySem.W.Frag) (H : Hp) (xs : List V) (a : Codec.denoteAll r.args), OnlyF H → Codec.withinAll r.args a = true → Codec.app r.args r.asked a = true → DwAll K H xs (Codec.encAll r.args a) →
      sp K xs H (fun v H' => Dw K H' v (r.ret.enc (Codec.app r.args r.f a))) fun _ _ _ => False)
    (hCX : ∀ (H : Hp) (s : Shared) (e : Value) (s' : Shared), CX [] H s (fun _ _ _ => False) e s' → False) :
    PySem.W.WalkOS q loose XP YP r d [] (fun f vs => PySem.call f vs) :=
  walk_spec (K := K) (CX := fun _ => CX) (sp := fun w => sp (K w.params)) hwell hdf hlen hr hY F (fun w H xs a h1 h2 h3 h4 => hsp (K w.params) H xs a h1 h2 h3 h4) fun _ H s e s' => hCX H s e s'
end L2
end
section
set_option linter.all false
namespace Bts
open Km439

/-! ### sums -/
theorem sum_acc : ∀ (l : List Nat) (a : Nat), l.foldl (· + ·) a = a + Km439.sum l
  | [], a => by simp [Km439.sum]
  | x :: l, a => by
    unfold Km439.sum
    rw [List.foldl_cons, List.foldl_cons, sum_acc l (a + x), sum_acc l (0 + x)]
    omega
theorem sum_nil : Km439.sum [] = 0 := rfl
theorem sum_cons (x : Nat) (l : List Nat) : Km439.sum (x :: l) = x + Km439.sum l := by
  show List.foldl (· + ·) (0 + x) l = _
  rw [sum_acc]; omega
theorem sum_app : ∀ (l m : List Nat), Km439.sum (l ++ m) = Km439.sum l + Km439.sum m
  | [], m => by rw [List.nil_append, sum_nil]; omega
  | x :: l, m => by rw [List.cons_append, sum_cons, sum_cons, sum_app l m]; omega
theorem sum_mono {α : Type} {f g : α → Nat} : ∀ {l : List α}, (∀ x ∈ l, f x ≤ g x) → Km439.sum (l.map f) ≤ Km439.sum (l.map g)
  | [], _ => Nat.le_refl _
  | x :: l, h => by
    rw [List.map_cons, List.map_cons, sum_cons, sum_cons]
    have h1 := h x (List.mem_cons_self ..)
    have h2 := sum_mono (l := l) fun y hy => h y (List.mem_cons_of_mem _ hy)
    omega
/-- the program's sum over those that pass the test -/
theorem sum_int {α : Type} {p : α → Bool} {f : α → Int} {g : α → Nat} : ∀ {l : List α}, (∀ x ∈ l, p x = true → f x = (g x : Int)) → (∀ x ∈ l, p x = false → g x = 0) →
    ((l.filter p).map f).sum = ((Km439.sum (l.map g) : Nat) : Int)
  | [], _, _ => rfl
  | x :: l, h1, h2 => by
    have ih := sum_int (p := p) (f := f) (g := g) (l := l) (fun y hy => h1 y (List.mem_cons_of_mem _ hy)) (fun y hy => h2 y (List.mem_cons_of_mem _ hy))
    rw [List.map_cons, sum_cons]
    cases e : p x with
    | true =>
      rw [List.filter_cons, if_pos e, List.map_cons, List.sum_cons, ih, h1 x (List.mem_cons_self ..) e]
      omega
    | false =>
      rw [List.filter_cons, if_neg (by rw [e]; decide), ih, h2 x (List.mem_cons_self ..) e]
      omega
theorem sum_int0 {α : Type} {f : α → Int} {g : α → Nat} {l : List α} (h : ∀ x ∈ l, f x = (g x : Int)) : (l.map f).sum = ((Km439.sum (l.map g) : Nat) : Int) := by
  have := sum_int (p := fun _ => true) (f := f) (g := g) (l := l) (fun x hx _ => h x hx) (fun x _ e => by cases e)
  rw [← this]
  congr 2
  exact (List.filter_eq_self.mpr fun _ _ => rfl).symm

/-! ### the search -/
theorem search_spec (p : Nat → Bool) : ∀ (f lo hi : Nat), hi - lo < 2 ^ f → lo ≤ hi → p hi = true → (∀ a b, a ≤ b → p a = true → p b = true) →
    lo ≤ search p f lo hi ∧ search p f lo hi ≤ hi ∧ p (search p f lo hi) = true ∧ ∀ t, lo ≤ t → p t = true → search p f lo hi ≤ t
  | 0, lo, hi, h1, h2, h3, _ => by
    have : lo = hi := by omega
    subst this
    exact ⟨Nat.le_refl _, Nat.le_refl _, h3, fun t ht _ => ht⟩
  | f + 1, lo, hi, h1, h2, h3, hm => by
    unfold search
    by_cases c : hi ≤ lo
    · rw [if_pos c]
      exact ⟨h2, Nat.le_refl _, h3, fun t ht _ => by omega⟩
    · rw [if_neg c]
      rw [Nat.pow_succ] at h1
      by_cases q : p ((lo + hi) / 2) = true
      · rw [if_pos q]
        obtain ⟨a, b, cc, d⟩ := search_spec p f lo ((lo + hi) / 2) (by omega) (by omega) q hm
        exact ⟨a, by omega, cc, d⟩
      · rw [if_neg q]
        obtain ⟨a, b, cc, d⟩ := search_spec p f ((lo + hi) / 2 + 1) hi (by omega) (by omega) h3 hm
        refine ⟨by omega, b, cc, fun t ht pt => ?_⟩
        by_cases z : (lo + hi) / 2 + 1 ≤ t
        · exact d t z pt
        · exact absurd (hm t ((lo + hi) / 2) (by omega) pt) q
theorem search_least {p : Nat → Bool} {f hi t : Nat} (hf : hi < 2 ^ f) (h3 : p hi = true) (hm : ∀ a b, a ≤ b → p a = true → p b = true) (ht : p t = true) (hl : ∀ u, u < t → p u = false) : search p f 0 hi = t := by
  obtain ⟨_, _, c, d⟩ := search_spec p f 0 hi (by omega) (by omega) h3 hm
  have h1 := d t (Nat.zero_le _) ht
  by_cases z : search p f 0 hi < t
  · rw [hl _ z] at c; cases c
  · omega

/-! ### more time, more back -/
theorem brings_mono (s : Sea) (b : Boat) {t u : Nat} (h : t ≤ u) : s.brings t b ≤ s.brings u b := by
  unfold Sea.brings
  cases s.soon b with
  | none => exact Nat.le_refl _
  | some a =>
    show (if t < a + b.way then 0 else _) ≤ (if u < a + b.way then 0 else _)
    by_cases c : t < a + b.way
    · rw [if_pos c]; exact Nat.zero_le _
    · rw [if_neg c, if_neg (by omega)]
      exact Nat.mul_le_mul_right _ (Nat.succ_le_succ (Nat.div_le_div_right (by omega)))
theorem brought_mono (s : Sea) {t u : Nat} (h : t ≤ u) : s.brought t ≤ s.brought u := sum_mono fun b _ => brings_mono s b h
theorem enough_mono (s : Sea) : ∀ a b, a ≤ b → s.enough a = true → s.enough b = true := fun a b h e => by
  unfold Sea.enough at e ⊢
  rw [Bool.and_eq_true, decide_eq_true_eq, decide_eq_true_eq] at e ⊢
  have := brought_mono s h
  exact ⟨by omega, by omega⟩

/-! ### minutes -/
theorem minutes_eq : ∀ (n : Nat) (s : Sea), s.minutes n = { s with time := s.time + n, boats := s.boats.map fun b => { b with left := b.left - n } }
  | 0, s => by
    show s = _
    have : (s.boats.map fun b => { b with left := b.left - 0 }) = s.boats := by
      have e : (fun b : Boat => { b with left := b.left - 0 }) = id := by funext b; rfl
      rw [e, List.map_id]
    rw [this]
    rfl
  | n + 1, s => by
    show s.minute.minutes n = _
    rw [minutes_eq n]
    show ({ s with time := s.time + 1 + n, boats := (s.boats.map fun b => { b with left := b.left - 1 }).map fun b => { b with left := b.left - n } } : Sea) = _
    rw [List.map_map]
    have e : ((fun b : Boat => { b with left := b.left - n }) ∘ fun b : Boat => { b with left := b.left - 1 }) = fun b : Boat => { b with left := b.left - (n + 1) } := by
      funext b
      show ({ b with left := b.left - 1 - n } : Boat) = { b with left := b.left - (n + 1) }
      congr 1
      omega
    rw [e, show s.time + 1 + n = s.time + (n + 1) by omega]

/-! ### greatest of a list -/
theorem foldl_max : ∀ (l : List Nat) (a : Nat), l.foldl max a = max a (l.foldl max 0)
  | [], a => by simp
  | x :: l, a => by
    rw [List.foldl_cons, List.foldl_cons, foldl_max l (max a x), foldl_max l (max 0 x)]
    omega
theorem max_nil : ([] : List Nat).foldl max 0 = 0 := rfl
theorem max_cons (x : Nat) (l : List Nat) : (x :: l).foldl max 0 = max x (l.foldl max 0) := by
  rw [List.foldl_cons, foldl_max]; omega
/-- the program's greatest over those that pass the test -/
theorem max_int {α : Type} {p : α → Bool} {f : α → Int} {g : α → Nat} {m : Int} : ∀ {l : List α}, (∀ x ∈ l, p x = true → f x = (g x : Int)) → (∀ x ∈ l, p x = false → g x = 0) →
    m ∈ (l.filter p).map f → (∀ y, y ∈ (l.filter p).map f → y ≤ m) → m = (((l.map g).foldl max 0 : Nat) : Int) := by
  have le_all : ∀ {l : List α} {x : α}, x ∈ l → g x ≤ (l.map g).foldl max 0 := by
    intro l
    induction l with
    | nil => intro x h; cases h
    | cons y l ih =>
      intro x h
      rw [List.map_cons, max_cons]
      rcases List.mem_cons.mp h with e | e
      · subst e; omega
      · have := ih e; omega
  have is_one : ∀ {l : List α}, (l.map g).foldl max 0 = 0 ∨ ∃ x ∈ l, g x = (l.map g).foldl max 0 := by
    intro l
    induction l with
    | nil => exact .inl rfl
    | cons y l ih =>
      rw [List.map_cons, max_cons]
      by_cases c : (l.map g).foldl max 0 ≤ g y
      · exact .inr ⟨y, List.mem_cons_self .., by omega⟩
      · rcases ih with e | ⟨x, hx, e⟩
        · omega
        · exact .inr ⟨x, List.mem_cons_of_mem _ hx, by omega⟩
  intro l h1 h2 hm ha
  obtain ⟨x, hx, rfl⟩ := List.mem_map.mp hm
  obtain ⟨hx1, hx2⟩ := List.mem_filter.mp hx
  have e1 := h1 x hx1 hx2
  have e2 := le_all hx1
  rcases is_one (l := l) with e | ⟨y, hy, e⟩
  · omega
  · cases q : p y with
    | false =>
      have := h2 y hy q
      omega
    | true =>
      have e3 := h1 y hy q
      have := ha _ (List.mem_map.mpr ⟨y, List.mem_filter.mpr ⟨hy, q⟩, rfl⟩)
      omega
theorem max_none {α : Type} {p : α → Bool} {f : α → Int} {g : α → Nat} : ∀ {l : List α}, (∀ x ∈ l, p x = false → g x = 0) → (l.filter p).map f = [] → (l.map g).foldl max 0 = 0
  | [], _, _ => rfl
  | x :: l, h, e => by
    have hf : (x :: l).filter p = [] := List.map_eq_nil_iff.mp e
    have hx : p x = false := by
      cases q : p x with
      | false => rfl
      | true => rw [List.filter_cons, if_pos q] at hf; cases hf
    rw [List.filter_cons, if_neg (by rw [hx]; decide)] at hf
    rw [List.map_cons, max_cons, h x (List.mem_cons_self ..) hx, max_none (p := p) (f := f) (fun y hy => h y (List.mem_cons_of_mem _ hy)) (by rw [hf]; rfl)]
    rfl

/-! ### tickets -/
theorem persons_nil : persons [] = 0 := rfl
theorem persons_cons (x : Nat × Nat) (l : List (Nat × Nat)) : persons (x :: l) = x.2 + persons l := by
  unfold persons; rw [List.map_cons, sum_cons]
theorem persons_app (l m : List (Nat × Nat)) : persons (l ++ m) = persons l + persons m := by
  unfold persons; rw [List.map_append, sum_app]
theorem persons_split (l : List (Nat × Nat)) (n : Nat) : persons (l.take n) + persons (l.drop n) = persons l := by
  rw [← persons_app, List.take_append_drop]
theorem called_le : ∀ (l : List (Nat × Nat)) (r : Nat), called l r ≤ l.length
  | [], _ => Nat.le_refl _
  | (k, n) :: l, r => by
    unfold called
    split
    · have := called_le l (r - n); rw [List.length_cons]; omega
    · exact Nat.zero_le _
theorem called_fits : ∀ (l : List (Nat × Nat)) (r : Nat), persons (l.take (called l r)) ≤ r
  | [], _ => by simp [persons_nil]
  | (k, n) :: l, r => by
    unfold called
    by_cases c : n ≤ r
    · rw [if_pos c, List.take_succ_cons, persons_cons]
      have := called_fits l (r - n)
      show n + _ ≤ r
      omega
    · rw [if_neg c, List.take_zero, persons_nil]; exact Nat.zero_le _
/-- it is the greatest number of first groups that fit; the loop stops there -/
theorem called_stop : ∀ (l : List (Nat × Nat)) (r c : Nat), c ≤ l.length → persons (l.take c) ≤ r → (c < l.length → r < persons (l.take (c + 1))) → called l r = c
  | [], r, c, h1, _, _ => by
    have : c = 0 := by simpa using h1
    subst this; rfl
  | (k, n) :: l, r, 0, _, _, h3 => by
    have h := h3 (by simp)
    rw [List.take_succ_cons, List.take_zero, persons_cons, persons_nil] at h
    unfold called
    rw [if_neg (by show ¬ n ≤ r; simp at h; omega)]
  | (k, n) :: l, r, c + 1, h1, h2, h3 => by
    rw [List.take_succ_cons, persons_cons] at h2
    have h2' : n + persons (l.take c) ≤ r := h2
    unfold called
    rw [if_pos (by omega), called_stop l (r - n) c (by simpa using h1) (by omega) (fun hc => ?_)]
    have h := h3 (by simpa using hc)
    rw [List.take_succ_cons, persons_cons] at h
    have h' : r < n + persons (l.take (c + 1)) := h
    omega
theorem persons_take_mono : ∀ (l : List (Nat × Nat)) (a b : Nat), a ≤ b → persons (l.take a) ≤ persons (l.take b)
  | [], a, b, _ => by simp
  | x :: l, 0, b, _ => by rw [List.take_zero, persons_nil]; exact Nat.zero_le _
  | x :: l, a + 1, 0, h => absurd h (by omega)
  | x :: l, a + 1, b + 1, h => by
    rw [List.take_succ_cons, List.take_succ_cons, persons_cons, persons_cons]
    have := persons_take_mono l a b (by omega)
    omega

/-! ### bits -/
theorem bits_acc : ∀ (l : List Nat) (a : Nat), l.foldl (fun w k => w + 2 ^ k) a = a + bits l
  | [], a => by simp [bits]
  | x :: l, a => by
    unfold bits
    rw [List.foldl_cons, List.foldl_cons, bits_acc l (a + 2 ^ x), bits_acc l (0 + 2 ^ x)]
    omega
theorem bits_cons (x : Nat) (l : List Nat) : bits (x :: l) = 2 ^ x + bits l := by
  show List.foldl _ (0 + 2 ^ x) l = _
  rw [bits_acc]; omega
theorem bits_int : ∀ (l : List Nat), (l.map fun k => (1 : Int) * 2 ^ k).sum = ((bits l : Nat) : Int)
  | [] => rfl
  | x :: l => by
    rw [List.map_cons, List.sum_cons, bits_int l, bits_cons]
    rw [Int.natCast_add, Int.natCast_pow]
    simp
theorem getD_ix {α : Type} {l : List α} {i : Nat} {x d : α} (h : l[i]? = some x) : l.getD i d = x := by
  rw [List.getD_eq_getElem?_getD, h]; rfl

end Bts

end
section
set_option linter.all false
namespace Bts
open Km439

/-! ### what holds of a boat, of all -/
structure WB (b : Boat) : Prop where
  s1 : 1 ≤ b.seats
  s2 : b.seats ≤ 200
  w1 : 1 ≤ b.way
  w2 : b.way ≤ 60
  v : b.swell ≤ 9
  i : b.in_ ≤ b.seats
  l : b.left ≤ b.way
structure WF (s : Sea) : Prop where
  nb : s.boats.length ≤ 4
  bo : ∀ b ∈ s.boats, WB b
  nq : s.queue.length ≤ 10
  tk : s.tickets ≤ 100000
  wy : s.ways ≤ 100000
  ti : s.time ≤ 100000
  sw : s.swell ≤ 9
  sl : s.sail ≤ 100000
  wq : persons s.queue ≤ s.ship
  kt : ∀ x ∈ s.queue, x.1 < s.tickets
  kn : ∀ x ∈ s.queue, 1 ≤ x.2 ∧ x.2 ≤ 200

/-- the calls that change, by the sea alone -/
def nxt (s : Sea) (c : Call) : Sea := (act ⟨s, [], []⟩ c).1.now
def ans (s : Sea) (c : Call) : Ans := (act ⟨s, [], []⟩ c).2
def isChg : Call → Bool
  | .boat _ _ _ | .into _ _ | .out_ _ _ | .go _ | .minutes _ | .swell _ | .ticket _ | .call_ _ | .drop _ | .sail _ => true
  | _ => false
def isAsk : Call → Bool
  | .back_ | .slack | .brought _ | .fewest _ | .next | .where_ _ | .look _ | .place _ | .first | .fits _ | .all | .may | .sums => true
  | _ => false
theorem act_ask {c : Call} (h : isAsk c = true) (d : Desk) : act d c = (d, ans d.now c) := by
  cases c <;> first | rfl | cases h

theorem opened_wf {n t : Nat} (h : ¬ (n = 0 ∨ PERSONS < n ∨ t = 0 ∨ LATEST < t)) : WF (opened n t) := by
  unfold PERSONS LATEST at h
  refine ⟨Nat.zero_le _, fun b hb => (by cases hb), Nat.zero_le _, Nat.zero_le _, Nat.zero_le _, Nat.zero_le _, Nat.zero_le _, (by show t ≤ 100000; omega), Nat.zero_le _, fun x hx => (by cases hx), fun x hx => (by cases hx)⟩

theorem mem_set_wb {l : List Boat} {k : Nat} {b : Boat} (h : ∀ x ∈ l, WB x) (hb : WB b) : ∀ x ∈ l.set k b, WB x := fun x hx => by
  rcases List.mem_or_eq_of_mem_set hx with z | z
  · exact h x z
  · rw [z]; exact hb

/-- a change by the sea alone, and by the desk -/
structure ActChg (d : Desk) (c : Call) : Prop where
  eq : act d c = (if 0 ≤ (ans d.now c).value then d.become (nxt d.now c) else d, ans d.now c)
  stay : ¬ 0 ≤ (ans d.now c).value → nxt d.now c = d.now
  wf : WF d.now → WF (nxt d.now c)

theorem refused {d : Desk} {c : Call} {z : Int} (hz : z < 0) (h1 : act d c = (d, only z)) (h2 : act ⟨d.now, [], []⟩ c = (⟨d.now, [], []⟩, only z)) : ActChg d c := by
  have ea : ans d.now c = only z := by unfold ans; rw [h2]
  have en : nxt d.now c = d.now := by unfold nxt; rw [h2]
  exact ⟨by rw [ea, if_neg (by show ¬ 0 ≤ z; omega), h1], fun _ => en, fun w => by rw [en]; exact w⟩
theorem done {d : Desk} {c : Call} {s : Sea} {a : Ans} (hv : 0 ≤ a.value) (h1 : act d c = (d.become s, a)) (h2 : act ⟨d.now, [], []⟩ c = ((⟨d.now, [], []⟩ : Desk).become s, a)) (hw : WF d.now → WF s) : ActChg d c := by
  have ea : ans d.now c = a := by unfold ans; rw [h2]
  have en : nxt d.now c = s := by unfold nxt; rw [h2]; rfl
  exact ⟨by rw [ea, if_pos hv, en, h1], fun h => absurd (by rw [ea]; exact hv) h, fun w => by rw [en]; exact hw w⟩

theorem chg_boat (d : Desk) (n w v : Nat) : ActChg d (.boat n w v) := by
  by_cases c1 : n = 0 ∨ 200 < n ∨ w = 0 ∨ 60 < w ∨ 9 < v
  · exact refused (z := -22) (by decide) (by simp only [act, if_pos c1]) (by simp only [act, if_pos c1])
  by_cases c2 : BOATS ≤ d.now.boats.length
  · exact refused (z := -28) (by decide) (by simp only [act, if_neg c1, if_pos c2]) (by simp only [act, if_neg c1, if_pos c2])
  refine done (s := { d.now with boats := d.now.boats ++ [⟨n, w, v, 0, false, 0⟩] }) (a := only ((d.now.boats.length : Nat) : Int)) (Int.natCast_nonneg _) (by simp only [act, if_neg c1, if_neg c2]) (by simp only [act, if_neg c1, if_neg c2]) fun W => ?_
  refine ⟨?_, fun b hb => ?_, W.nq, W.tk, W.wy, W.ti, W.sw, W.sl, W.wq, W.kt, W.kn⟩
  · unfold BOATS at c2
    show (d.now.boats ++ _).length ≤ 4
    rw [List.length_append, List.length_singleton]; omega
  · rcases List.mem_append.mp hb with z | z
    · exact W.bo b z
    · rw [List.mem_singleton.mp z]
      exact ⟨by show 1 ≤ n; omega, by show n ≤ 200; omega, by show 1 ≤ w; omega, by show w ≤ 60; omega, by show v ≤ 9; omega, Nat.zero_le _, Nat.zero_le _⟩
theorem chg_into (d : Desk) (k n : Nat) : ActChg d (.into k n) := by
  cases e : d.now.boats[k]? with
  | none => exact refused (z := -2) (by decide) (by simp only [act, e]) (by simp only [act, e])
  | some b =>
    by_cases c1 : n = 0
    · exact refused (z := -22) (by decide) (by simp only [act, e, if_pos c1]) (by simp only [act, e, if_pos c1])
    by_cases c2 : b.left ≠ 0
    · exact refused (z := -16) (by decide) (by simp only [act, e, if_neg c1, if_pos c2]) (by simp only [act, e, if_neg c1, if_pos c2])
    by_cases c3 : (if b.shore = true then d.now.shore else d.now.ship - persons d.now.queue) < n
    · exact refused (z := -12) (by decide) (by simp only [act, e, if_neg c1, if_neg c2, if_pos c3]) (by simp only [act, e, if_neg c1, if_neg c2, if_pos c3])
    by_cases c4 : b.seats < b.in_ + n
    · exact refused (z := -62) (by decide) (by simp only [act, e, if_neg c1, if_neg c2, if_neg c3, if_pos c4]) (by simp only [act, e, if_neg c1, if_neg c2, if_neg c3, if_pos c4])
    refine done (s := if b.shore = true then { d.now.set k { b with in_ := b.in_ + n } with shore := d.now.shore - n } else { d.now.set k { b with in_ := b.in_ + n } with ship := d.now.ship - n }) (a := only ((b.in_ + n : Nat) : Int)) (Int.natCast_nonneg _)
      (by simp only [act, e, if_neg c1, if_neg c2, if_neg c3, if_neg c4]; rfl) (by simp only [act, e, if_neg c1, if_neg c2, if_neg c3, if_neg c4]; rfl) fun W => ?_
    have hb := W.bo b (List.mem_of_getElem? e)
    have hs : ∀ x ∈ d.now.boats.set k { b with in_ := b.in_ + n }, WB x := mem_set_wb W.bo ⟨hb.s1, hb.s2, hb.w1, hb.w2, hb.v, by show b.in_ + n ≤ b.seats; omega, hb.l⟩
    by_cases c5 : b.shore = true
    · rw [if_pos c5]
      exact ⟨by show (d.now.boats.set k _).length ≤ 4; rw [List.length_set]; exact W.nb, hs, W.nq, W.tk, W.wy, W.ti, W.sw, W.sl, W.wq, W.kt, W.kn⟩
    · rw [if_neg c5] at c3 ⊢
      exact ⟨by show (d.now.boats.set k _).length ≤ 4; rw [List.length_set]; exact W.nb, hs, W.nq, W.tk, W.wy, W.ti, W.sw, W.sl, by have := W.wq; show persons d.now.queue ≤ d.now.ship - n; omega, W.kt, W.kn⟩
theorem chg_out (d : Desk) (k n : Nat) : ActChg d (.out_ k n) := by
  cases e : d.now.boats[k]? with
  | none => exact refused (z := -2) (by decide) (by simp only [act, e]) (by simp only [act, e])
  | some b =>
    by_cases c1 : n = 0
    · exact refused (z := -22) (by decide) (by simp only [act, e, if_pos c1]) (by simp only [act, e, if_pos c1])
    by_cases c2 : b.left ≠ 0
    · exact refused (z := -16) (by decide) (by simp only [act, e, if_neg c1, if_pos c2]) (by simp only [act, e, if_neg c1, if_pos c2])
    by_cases c3 : b.in_ < n
    · exact refused (z := -12) (by decide) (by simp only [act, e, if_neg c1, if_neg c2, if_pos c3]) (by simp only [act, e, if_neg c1, if_neg c2, if_pos c3])
    refine done (s := if b.shore = true then { d.now.set k { b with in_ := b.in_ - n } with shore := d.now.shore + n } else { d.now.set k { b with in_ := b.in_ - n } with ship := d.now.ship + n }) (a := only ((b.in_ - n : Nat) : Int)) (Int.natCast_nonneg _)
      (by simp only [act, e, if_neg c1, if_neg c2, if_neg c3]; rfl) (by simp only [act, e, if_neg c1, if_neg c2, if_neg c3]; rfl) fun W => ?_
    have hb := W.bo b (List.mem_of_getElem? e)
    have hs : ∀ x ∈ d.now.boats.set k { b with in_ := b.in_ - n }, WB x := mem_set_wb W.bo ⟨hb.s1, hb.s2, hb.w1, hb.w2, hb.v, by have := hb.i; show b.in_ - n ≤ b.seats; omega, hb.l⟩
    by_cases c5 : b.shore = true
    · rw [if_pos c5]
      exact ⟨by show (d.now.boats.set k _).length ≤ 4; rw [List.length_set]; exact W.nb, hs, W.nq, W.tk, W.wy, W.ti, W.sw, W.sl, W.wq, W.kt, W.kn⟩
    · rw [if_neg c5]
      exact ⟨by show (d.now.boats.set k _).length ≤ 4; rw [List.length_set]; exact W.nb, hs, W.nq, W.tk, W.wy, W.ti, W.sw, W.sl, by have := W.wq; show persons d.now.queue ≤ d.now.ship + n; omega, W.kt, W.kn⟩
theorem chg_go (d : Desk) (k : Nat) : ActChg d (.go k) := by
  cases e : d.now.boats[k]? with
  | none => exact refused (z := -2) (by decide) (by simp only [act, e]) (by simp only [act, e])
  | some b =>
    by_cases c2 : b.left ≠ 0
    · exact refused (z := -16) (by decide) (by simp only [act, e, if_pos c2]) (by simp only [act, e, if_pos c2])
    by_cases c3 : d.now.may b = false
    · exact refused (z := -13) (by decide) (by simp only [act, e, if_neg c2, if_pos c3]) (by simp only [act, e, if_neg c2, if_pos c3])
    by_cases c4 : LATEST ≤ d.now.ways
    · exact refused (z := -28) (by decide) (by simp only [act, e, if_neg c2, if_neg c3, if_pos c4]) (by simp only [act, e, if_neg c2, if_neg c3, if_pos c4])
    refine done (s := { d.now.set k { b with shore := !b.shore, left := b.way } with ways := d.now.ways + 1 }) (a := only ((d.now.time + b.way : Nat) : Int)) (Int.natCast_nonneg _)
      (by simp only [act, e, if_neg c2, if_neg c3, if_neg c4]) (by simp only [act, e, if_neg c2, if_neg c3, if_neg c4]) fun W => ?_
    have hb := W.bo b (List.mem_of_getElem? e)
    have hs : ∀ x ∈ d.now.boats.set k { b with shore := !b.shore, left := b.way }, WB x := mem_set_wb W.bo ⟨hb.s1, hb.s2, hb.w1, hb.w2, hb.v, hb.i, Nat.le_refl _⟩
    unfold LATEST at c4
    exact ⟨by show (d.now.boats.set k _).length ≤ 4; rw [List.length_set]; exact W.nb, hs, W.nq, W.tk, by show d.now.ways + 1 ≤ 100000; omega, W.ti, W.sw, W.sl, W.wq, W.kt, W.kn⟩
theorem chg_minutes (d : Desk) (n : Nat) : ActChg d (.minutes n) := by
  by_cases c1 : n = 0 ∨ 1440 < n
  · exact refused (z := -22) (by decide) (by simp only [act, if_pos c1]) (by simp only [act, if_pos c1])
  by_cases c2 : LATEST < d.now.time + n
  · exact refused (z := -75) (by decide) (by simp only [act, if_neg c1, if_pos c2]) (by simp only [act, if_neg c1, if_pos c2])
  refine done (s := d.now.minutes n) (a := ⟨(((d.now.minutes n).time : Nat) : Int), [bits ((List.range (d.now.minutes n).boats.length).filter fun k => ((d.now.minutes n).boat k).left == 0)]⟩) (Int.natCast_nonneg _) (by simp only [act, if_neg c1, if_neg c2]) (by simp only [act, if_neg c1, if_neg c2]) fun W => ?_
  rw [minutes_eq]
  unfold LATEST at c2
  refine ⟨by show (d.now.boats.map _).length ≤ 4; rw [List.length_map]; exact W.nb, fun b hb => ?_, W.nq, W.tk, W.wy, by show d.now.time + n ≤ 100000; omega, W.sw, W.sl, W.wq, W.kt, W.kn⟩
  obtain ⟨x, hx, rfl⟩ := List.mem_map.mp hb
  have h := W.bo x hx
  exact ⟨h.s1, h.s2, h.w1, h.w2, h.v, h.i, by have := h.l; show x.left - n ≤ x.way; omega⟩
theorem chg_swell (d : Desk) (v : Nat) : ActChg d (.swell v) := by
  by_cases c1 : 9 < v
  · exact refused (z := -22) (by decide) (by simp only [act, if_pos c1]) (by simp only [act, if_pos c1])
  refine done (s := { d.now with swell := v }) (a := only ((d.now.swell : Nat) : Int)) (Int.natCast_nonneg _) (by simp only [act, if_neg c1]) (by simp only [act, if_neg c1]) fun W => ?_
  exact ⟨W.nb, W.bo, W.nq, W.tk, W.wy, W.ti, by show v ≤ 9; omega, W.sl, W.wq, W.kt, W.kn⟩
theorem chg_ticket (d : Desk) (n : Nat) : ActChg d (.ticket n) := by
  by_cases c1 : n = 0 ∨ 200 < n
  · exact refused (z := -22) (by decide) (by simp only [act, if_pos c1]) (by simp only [act, if_pos c1])
  by_cases c2 : d.now.ship < persons d.now.queue + n
  · exact refused (z := -12) (by decide) (by simp only [act, if_neg c1, if_pos c2]) (by simp only [act, if_neg c1, if_pos c2])
  by_cases c3 : GROUPS ≤ d.now.queue.length ∨ LATEST ≤ d.now.tickets
  · exact refused (z := -28) (by decide) (by simp only [act, if_neg c1, if_neg c2, if_pos c3]) (by simp only [act, if_neg c1, if_neg c2, if_pos c3])
  refine done (s := { d.now with queue := d.now.queue ++ [(d.now.tickets, n)], tickets := d.now.tickets + 1 }) (a := only ((d.now.tickets : Nat) : Int)) (Int.natCast_nonneg _) (by simp only [act, if_neg c1, if_neg c2, if_neg c3]) (by simp only [act, if_neg c1, if_neg c2, if_neg c3]) fun W => ?_
  unfold GROUPS LATEST at c3
  refine ⟨W.nb, W.bo, by show (d.now.queue ++ _).length ≤ 10; rw [List.length_append, List.length_singleton]; omega, by show d.now.tickets + 1 ≤ 100000; omega, W.wy, W.ti, W.sw, W.sl, ?_, fun x hx => ?_, fun x hx => ?_⟩
  · show persons (d.now.queue ++ [(d.now.tickets, n)]) ≤ d.now.ship
    rw [persons_app, persons_cons, persons_nil]
    show persons d.now.queue + (n + 0) ≤ _
    omega
  · show x.1 < d.now.tickets + 1
    rcases List.mem_append.mp hx with z | z
    · have := W.kt x z; omega
    · rw [List.mem_singleton.mp z]; exact Nat.lt_succ_self _
  · rcases List.mem_append.mp hx with z | z
    · exact W.kn x z
    · rw [List.mem_singleton.mp z]; exact ⟨by show 1 ≤ n; omega, by show n ≤ 200; omega⟩
theorem chg_call (d : Desk) (k : Nat) : ActChg d (.call_ k) := by
  cases e : d.now.boats[k]? with
  | none => exact refused (z := -2) (by decide) (by simp only [act, e]) (by simp only [act, e])
  | some b =>
    by_cases c2 : b.left ≠ 0 ∨ b.shore = true
    · exact refused (z := -16) (by decide) (by simp only [act, e, if_pos c2]) (by simp only [act, e, if_pos c2])
    by_cases c3 : d.now.queue = []
    · exact refused (z := -6) (by decide) (by simp only [act, e, if_neg c2, if_pos c3]) (by simp only [act, e, if_neg c2, if_pos c3])
    by_cases c4 : called d.now.queue (b.seats - b.in_) = 0
    · exact refused (z := -62) (by decide) (by simp only [act, e, if_neg c2, if_neg c3, if_pos c4]) (by simp only [act, e, if_neg c2, if_neg c3, if_pos c4])
    refine done (s := { d.now.set k { b with in_ := b.in_ + persons (d.now.queue.take (called d.now.queue (b.seats - b.in_))) } with ship := d.now.ship - persons (d.now.queue.take (called d.now.queue (b.seats - b.in_))), queue := d.now.queue.drop (called d.now.queue (b.seats - b.in_)) })
      (a := ⟨((called d.now.queue (b.seats - b.in_) : Nat) : Int), [persons (d.now.queue.take (called d.now.queue (b.seats - b.in_)))]⟩) (Int.natCast_nonneg _)
      (by simp only [act, e, if_neg c2, if_neg c3, if_neg c4]) (by simp only [act, e, if_neg c2, if_neg c3, if_neg c4]) fun W => ?_
    have hb := W.bo b (List.mem_of_getElem? e)
    have hf := called_fits d.now.queue (b.seats - b.in_)
    have hi := hb.i
    have hs : ∀ x ∈ d.now.boats.set k { b with in_ := b.in_ + persons (d.now.queue.take (called d.now.queue (b.seats - b.in_))) }, WB x := mem_set_wb W.bo ⟨hb.s1, hb.s2, hb.w1, hb.w2, hb.v, by show b.in_ + _ ≤ b.seats; omega, hb.l⟩
    have hp := persons_split d.now.queue (called d.now.queue (b.seats - b.in_))
    have hq := W.wq
    refine ⟨by show (d.now.boats.set k _).length ≤ 4; rw [List.length_set]; exact W.nb, hs, by show (d.now.queue.drop _).length ≤ 10; rw [List.length_drop]; have := W.nq; omega, W.tk, W.wy, W.ti, W.sw, W.sl, ?_, fun x hx => W.kt x (List.mem_of_mem_drop hx), fun x hx => W.kn x (List.mem_of_mem_drop hx)⟩
    show persons (d.now.queue.drop _) ≤ d.now.ship - persons (d.now.queue.take _)
    omega
theorem filter_persons (p : Nat × Nat → Bool) : ∀ l : List (Nat × Nat), persons (l.filter p) ≤ persons l
  | [] => Nat.le_refl _
  | x :: l => by
    have := filter_persons p l
    rw [List.filter_cons, persons_cons]
    split
    · rw [persons_cons]; omega
    · omega
theorem chg_drop (d : Desk) (k : Nat) : ActChg d (.drop k) := by
  cases e : d.now.queue.find? fun x => x.1 == k with
  | none => exact refused (z := -2) (by decide) (by simp only [act, e]) (by simp only [act, e])
  | some x =>
    refine done (s := { d.now with queue := d.now.queue.filter fun y => y.1 != k }) (a := only ((x.2 : Nat) : Int)) (Int.natCast_nonneg _) (by simp only [act, e]) (by simp only [act, e]) fun W => ?_
    refine ⟨W.nb, W.bo, Nat.le_trans (List.length_filter_le _ _) W.nq, W.tk, W.wy, W.ti, W.sw, W.sl, Nat.le_trans (filter_persons _ _) W.wq, fun y hy => W.kt y (List.mem_filter.mp hy).1, fun y hy => W.kn y (List.mem_filter.mp hy).1⟩
theorem chg_sail (d : Desk) (t : Nat) : ActChg d (.sail t) := by
  by_cases c1 : t < d.now.time ∨ LATEST < t
  · exact refused (z := -22) (by decide) (by simp only [act, if_pos c1]) (by simp only [act, if_pos c1])
  refine done (s := { d.now with sail := t }) (a := only ((d.now.sail : Nat) : Int)) (Int.natCast_nonneg _) (by simp only [act, if_neg c1]) (by simp only [act, if_neg c1]) fun W => ?_
  unfold LATEST at c1
  exact ⟨W.nb, W.bo, W.nq, W.tk, W.wy, W.ti, W.sw, by show t ≤ 100000; omega, W.wq, W.kt, W.kn⟩
theorem act_chg (d : Desk) {c : Call} (h : isChg c = true) : ActChg d c := by
  cases c with
  | boat n w v => exact chg_boat d n w v
  | into k n => exact chg_into d k n
  | out_ k n => exact chg_out d k n
  | go k => exact chg_go d k
  | minutes n => exact chg_minutes d n
  | swell v => exact chg_swell d v
  | ticket n => exact chg_ticket d n
  | call_ k => exact chg_call d k
  | drop k => exact chg_drop d k
  | sail t => exact chg_sail d t
  | _ => cases h
end Bts

end
section
set_option linter.all false
namespace Bts
open Km439

/-! ### the reckoning, by boats -/
def soonN (b : Boat) : Nat := if b.shore = true then b.left else b.left + b.way
def timesN (b : Boat) (t : Nat) : Nat := if t < soonN b + b.way then 0 else 1 + (t - (soonN b + b.way)) / (2 * b.way)
theorem brings_eq (s : Sea) (t : Nat) (b : Boat) : s.brings t b = if s.may b = true then b.seats * timesN b t else 0 := by
  unfold Sea.brings Sea.soon timesN soonN
  cases hm : s.may b with
  | false => simp
  | true =>
    cases hs : b.shore with
    | true =>
      simp only [Bool.true_eq_false, if_false, if_true]
      by_cases c : t < b.left + b.way
      · rw [if_pos c, if_pos c, Nat.mul_zero]
      · rw [if_neg c, if_neg c, Nat.mul_comm, Nat.add_comm 1, Nat.sub_sub]
    | false =>
      simp only [Bool.true_eq_false, Bool.false_eq_true, if_false, if_true]
      by_cases c : t < b.left + b.way + b.way
      · rw [if_pos c, if_pos c, Nat.mul_zero]
      · rw [if_neg c, if_neg c, Nat.mul_comm, Nat.add_comm 1, Nat.sub_sub]
theorem brought_int (s : Sea) (t : Nat) : ((s.boats.filter fun b => s.may b).map fun b => ((b.seats : Int) * (timesN b t : Nat))).sum = ((s.brought t : Nat) : Int) := by
  unfold Sea.brought
  refine sum_int (fun b _ h => ?_) (fun b _ h => ?_)
  · rw [brings_eq, if_pos h, Int.natCast_mul]
  · rw [brings_eq, if_neg (by rw [h]; decide)]
theorem away_int (s : Sea) : (s.shore : Int) + ((s.boats.filter fun b => b.shore).map fun b => ((b.in_ : Nat) : Int)).sum = ((s.away : Nat) : Int) := by
  unfold Sea.away
  rw [sum_int (g := fun b : Boat => if b.shore = true then b.in_ else 0) (fun b _ h => ?_) (fun b _ h => ?_), Int.natCast_add]
  · rw [if_pos h]
  · rw [if_neg (by rw [h]; decide)]
theorem clear_any (s : Sea) : (s.boats.any fun b => b.shore && (decide ((0 : Int) < b.left) && decide ((0 : Int) < b.in_))) = !s.clear := by
  unfold Sea.clear
  induction s.boats with
  | nil => rfl
  | cons b l ih =>
    rw [List.any_cons, List.all_cons, ih, Bool.not_and]
    congr 1
    cases b.shore with
    | false => simp
    | true =>
      simp only [Bool.true_and, Bool.true_eq_false, false_or]
      by_cases h1 : b.left = 0 <;> by_cases h2 : b.in_ = 0 <;> simp [h1, h2] <;> omega
def inComing (b : Boat) : Bool := !b.shore && decide ((0 : Int) < b.in_)
theorem coming_g (b : Boat) : (inComing b = true → (if b.shore = false ∧ b.in_ ≠ 0 then b.left else 0) = b.left) ∧ (inComing b = false → (if b.shore = false ∧ b.in_ ≠ 0 then b.left else 0) = 0) := by
  unfold inComing
  cases b.shore with
  | true => simp
  | false =>
    by_cases h : b.in_ = 0
    · simp [h]
    · simp [h]
theorem coming_max (s : Sea) {m : Int} (h1 : m ∈ (s.boats.filter inComing).map fun b => ((b.left : Nat) : Int)) (h2 : ∀ y, y ∈ (s.boats.filter inComing).map (fun b => ((b.left : Nat) : Int)) → y ≤ m) : m = ((s.coming : Nat) : Int) := by
  unfold Sea.coming
  exact max_int (fun b _ h => by rw [(coming_g b).1 h]) (fun b _ h => (coming_g b).2 h) h1 h2
theorem coming_none (s : Sea) (h : ((s.boats.filter inComing).map fun b => ((b.left : Nat) : Int)) = []) : s.coming = 0 := by
  unfold Sea.coming
  exact max_none (p := inComing) (f := fun b => ((b.left : Nat) : Int)) (fun b _ h => (coming_g b).2 h) h
theorem coming_le {s : Sea} (W : WF s) : s.coming ≤ 60 := by
  unfold Sea.coming
  have : ∀ l : List Boat, (∀ b ∈ l, WB b) → (l.map fun b => if b.shore = false ∧ b.in_ ≠ 0 then b.left else 0).foldl max 0 ≤ 60 := by
    intro l
    induction l with
    | nil => intro _; exact Nat.zero_le _
    | cons b l ih =>
      intro h
      rw [List.map_cons, max_cons]
      have h1 := h b (List.mem_cons_self ..)
      have h2 := ih fun x hx => h x (List.mem_cons_of_mem _ hx)
      have h3 := h1.l
      have h4 := h1.w2
      split <;> omega
  exact this _ W.bo
theorem back_none {s : Sea} (W : WF s) (h : s.brought 100000 < s.away) : s.back = none := by
  unfold Sea.back Sea.enough LATEST
  rw [if_neg]
  rw [Bool.and_eq_true, decide_eq_true_eq, decide_eq_true_eq]
  omega
theorem back_some {s : Sea} (W : WF s) {t : Nat} (h : ¬ s.brought 100000 < s.away) (h1 : s.coming ≤ t) (h2 : s.away ≤ s.brought t) (h3 : ∀ u, s.coming ≤ u → u < t → s.brought u < s.away) : s.back = some t := by
  have hc := coming_le W
  have he : s.enough LATEST = true := by
    unfold Sea.enough LATEST
    rw [Bool.and_eq_true, decide_eq_true_eq, decide_eq_true_eq]
    omega
  unfold Sea.back
  rw [if_pos he]
  congr 1
  refine search_least (by unfold LATEST; decide) he (enough_mono s) ?_ fun u hu => ?_
  · unfold Sea.enough
    rw [Bool.and_eq_true, decide_eq_true_eq, decide_eq_true_eq]
    exact ⟨h1, h2⟩
  · unfold Sea.enough
    by_cases c : s.coming ≤ u
    · have := h3 u c hu
      rw [Bool.and_eq_false_iff]
      exact .inr (decide_eq_false (by omega))
    · rw [Bool.and_eq_false_iff]
      exact .inl (decide_eq_false c)

/-! ### the lying boats as bits -/
theorem range_filter_map {α β : Type} (f : Nat → α → β) (p : α → Bool) (d : α) : ∀ (l : List α), ((List.range l.length).filter fun k => p (l.getD k d)).map (fun k => f k (l.getD k d)) = ((l.zipIdx).filter fun x => p x.1).map fun x => f x.2 x.1 := by
  intro l
  have e : (List.range l.length).map (fun k => (l.getD k d, k)) = l.zipIdx := by
    apply List.ext_getElem?
    intro i
    rw [List.getElem?_map, List.getElem?_zipIdx]
    by_cases h : i < l.length
    · rw [List.getElem?_range h]
      simp [List.getD_eq_getElem?_getD, List.getElem?_eq_getElem h]
    · rw [List.getElem?_eq_none (by simp; omega), List.getElem?_eq_none (by omega)]
      rfl
  rw [← e, List.filter_map, List.map_map]
  rfl

/-! ### the desk -/
structure WD (d : Desk) : Prop where
  now : WF d.now
  past : ∀ s ∈ d.past, WF s
  fut : ∀ s ∈ d.future, WF s
  n : d.past.length + d.future.length ≤ 30
theorem WD.fresh {n t : Nat} (h : ¬ (n = 0 ∨ PERSONS < n ∨ t = 0 ∨ LATEST < t)) : WD ⟨opened n t, [], []⟩ := ⟨opened_wf h, fun s hs => (by cases hs), fun s hs => (by cases hs), Nat.zero_le _⟩
theorem WD.become {d : Desk} (W : WD d) {s : Sea} (h : WF s) : WD (d.become s) := by
  refine ⟨h, fun x hx => ?_, fun x hx => (by cases hx), ?_⟩
  · rcases List.mem_cons.mp (List.mem_of_mem_take hx) with z | z
    · rw [z]; exact W.now
    · exact W.past x z
  · show ((d.now :: d.past).take PAST).length + 0 ≤ 30
    rw [List.length_take]
    unfold PAST
    omega

/-! ### the calls of a list -/
theorem ifz {c : Prop} [Decidable c] {a n k : Nat} {X : Option (Nat × Nat)} (h : (if c then some (a, 0) else X) = some (n, k)) (hx : X = some (n, k) → k = 0) : k = 0 := by
  by_cases hc : c
  · rw [if_pos hc] at h; cases h; rfl
  · rw [if_neg hc] at h; exact hx h
theorem shape_rows {p : Int} {n k : Nat} (h : PyKm439.shape p = some (n, k)) : k = 0 := by
  unfold PyKm439.shape at h
  refine ifz h fun h => ?_
  refine ifz h fun h => ?_
  refine ifz h fun h => ?_
  refine ifz h fun h => ?_
  refine ifz h fun h => ?_
  refine ifz h fun h => ?_
  refine ifz h fun h => ?_
  refine ifz h fun h => ?_
  refine ifz h fun h => ?_
  refine ifz h fun h => ?_
  refine ifz h fun h => ?_
  refine ifz h fun h => ?_
  refine ifz h fun h => ?_
  refine ifz h fun h => ?_
  refine ifz h fun h => ?_
  refine ifz h fun h => ?_
  refine ifz h fun h => ?_
  refine ifz h fun h => ?_
  refine ifz h fun h => ?_
  refine ifz h fun h => ?_
  refine ifz h fun h => ?_
  refine ifz h fun h => ?_
  refine ifz h fun h => ?_
  refine ifz h fun h => ?_
  refine ifz h fun h => ?_
  refine ifz h fun h => ?_
  refine ifz h fun h => ?_
  cases h
theorem calls_nil {f : Nat} {cs : List (List (List Int))} (h : PyFlat.calls PyKm439.shape f [] = some cs) : cs = [] := by
  cases f <;> (unfold PyFlat.calls at h; cases h; rfl)
theorem calls_cons1 {f : Nat} {p : Int} {r : List Int} {cs : List (List (List Int))} (h : PyFlat.calls PyKm439.shape (f + 1) (p :: r) = some cs) :
    ∃ n cs', PyKm439.shape p = some (n, 0) ∧ n ≤ r.length ∧ cs = [p :: r.take n] :: cs' ∧ PyFlat.calls PyKm439.shape f (r.drop n) = some cs' := by
  unfold PyFlat.calls at h
  unfold PyFlat.call at h
  cases hs : PyKm439.shape p with
  | none => simp only [hs] at h; cases h
  | some nk =>
    obtain ⟨n, k⟩ := nk
    have hk := shape_rows hs
    subst hk
    simp only [hs] at h
    by_cases hl : r.length < n
    · simp only [if_pos hl] at h; cases h
    · simp only [if_neg hl, PyFlat.rows] at h
      cases hc : PyFlat.calls PyKm439.shape f (r.drop n) with
      | none => simp only [hc] at h; cases h
      | some cs' =>
        simp only [hc] at h
        cases h
        exact ⟨n, cs', rfl, by omega, rfl, hc⟩
theorem calls_cons {f : Nat} {p : Int} {r : List Int} {cs : List (List (List Int))} (h : PyFlat.calls PyKm439.shape f (p :: r) = some cs) :
    ∃ n f' cs', PyKm439.shape p = some (n, 0) ∧ n ≤ r.length ∧ cs = [p :: r.take n] :: cs' ∧ PyFlat.calls PyKm439.shape f' (r.drop n) = some cs' := by
  cases f with
  | zero => unfold PyFlat.calls at h; cases h
  | succ f =>
    obtain ⟨n, cs', q⟩ := calls_cons1 h
    exact ⟨n, f, cs', q⟩
theorem told_cons (a : List Int) (l : List (List Int)) : PyFlat.told (a :: l) = (a.length : Int) :: a ++ PyFlat.told l := by
  unfold PyFlat.told
  rw [List.flatMap_cons]
end Bts

end
section
set_option Elab.async false
set_option linter.all false
set_option maxRecDepth 100000
set_option maxHeartbeats 4000000
namespace Bts
open PySem PySem.Spec PyProof.Rows L2
/-! ### rules of our own -/
theorem pe_gi {X : Cx} {x : Str} {n : Int} {pos : Pos} (hg : Gl X x) (hm : ∃ t, X.mg x = some (.int n t)) (hd : (x == ("__debug__" : Str)) = false := by decide) : PE X (.Name x pos) (tC (.int n)) := by
  obtain ⟨t, hm⟩ := hm
  exact pe_glob hg hm ⟨t, rfl⟩ hd
theorem lk0 {a : Str} {v : V} {es : List (Str × V)} : List.lookup a ((a, v) :: es) = some v := by
  rw [List.lookup_cons, beq_self_eq_true]
theorem lk {a k : Str} {v : V} {r : Option V} {es : List (Str × V)} (h : ¬ a = k) (e : List.lookup a es = r) : List.lookup a ((k, v) :: es) = r := by
  rw [List.lookup_cons, beq_eq_false_iff_ne.mpr h]
  exact e
theorem pf0 {f : Str} {v : V} : putF f v [] = [(f, v)] := rfl
theorem pf1 {f : Str} {v v' : V} {r : List (Str × V)} : putF f v ((f, v') :: r) = (f, v) :: r := by
  show (if f = f then _ else _) = _
  rw [if_pos rfl]
theorem pf {f g : Str} {v v' : V} {r r' : List (Str × V)} (h : ¬ g = f) (e : putF f v r = r') : putF f v ((g, v') :: r) = (g, v') :: r' := by
  show (if g = f then _ else _) = _
  rw [if_neg h, e]
theorem few0 : ([] : List (Str × V)).length ≤ 0 := Nat.le_refl _
theorem few {n : Nat} {fs : List (Str × V)} {f : Str} {v : V} (h : fs.length ≤ n) : (putF f v fs).length ≤ n + 1 := Nat.le_trans (length_putF f v fs) (Nat.succ_le_succ h)
theorem lt1000 {n m : Nat} (h : n ≤ m) (hm : m < 1000 := by decide) : n < 1000 := Nat.lt_of_le_of_lt h hm
/-! rules whose readings do not name the context (for a comprehension's block) -/
theorem pe_fldK {X : Cx} {K : PySem.W.Frag} {e : Expr} {f : Str} {pos : Pos} {ta : TE} (hK : X.K = K) (he : PE X e ta) (hb : attributeBase e f X.env (eval e X.env) = eval e X.env) : PE X (.Attribute e f pos) (tFld K ta f) := by
  subst hK
  exact pe_fld he hb
theorem pg_tupK {X : Cx} {K : PySem.W.Frag} {es : List Expr} {k n : Nat} {t : TGs} {pos : Pos} (hK : X.K = K) (hc : X.calm = true) (h : PGs X es t) (hn : (assignEach es X.env).length = n := by rfl) (hst : (assignEach es X.env).findIdx? (·.1) = none := by rfl) : PG X (.Tuple es k pos) (gTup K n t) := by
  subst hK
  exact pg_tup hc h hn hst
theorem ix_tupK {X : Cx} {K : PySem.W.Frag} (hK : X.K = K) : IxR X (rIxT K) := by
  subst hK
  exact ix_tup
theorem ix_listK {X : Cx} {K : PySem.W.Frag} (hK : X.K = K) : IxR X (rIxL K) := by
  subst hK
  exact ix_list
theorem call_lenK {X : Cx} {K : PySem.W.Frag} (hK : X.K = K) : CallR X (.builtin "len") (fun xs H Q => ∃ p ys, xs = [.ref p] ∧ (SqL K H p ys ∨ SqT K H p ys) ∧ Q (.int ys.length) H) := by
  subst hK
  exact call_len_seq
/-! ### attributes -/
theorem ne_answer_changes : ¬ (("answer" : Str) = "changes") := by decide +kernel
theorem ne_answer_state : ¬ (("answer" : Str) = "state") := by decide +kernel
theorem ne_before_undone : ¬ (("before" : Str) = "undone") := by decide +kernel
theorem ne_begin_changes : ¬ (("begin" : Str) = "changes") := by decide +kernel
theorem ne_begin_state : ¬ (("begin" : Str) = "state") := by decide +kernel
theorem ne_boats_groups : ¬ (("boats" : Str) = "groups") := by decide +kernel
theorem ne_boats_minute : ¬ (("boats" : Str) = "minute") := by decide +kernel
theorem ne_boats_on_ship : ¬ (("boats" : Str) = "on_ship") := by decide +kernel
theorem ne_boats_on_shore : ¬ (("boats" : Str) = "on_shore") := by decide +kernel
theorem ne_boats_sail : ¬ (("boats" : Str) = "sail") := by decide +kernel
theorem ne_boats_swell : ¬ (("boats" : Str) = "swell") := by decide +kernel
theorem ne_boats_tickets_given : ¬ (("boats" : Str) = "tickets_given") := by decide +kernel
theorem ne_boats_times_gone : ¬ (("boats" : Str) = "times_gone") := by decide +kernel
theorem ne_change_changes : ¬ (("change" : Str) = "changes") := by decide +kernel
theorem ne_change_state : ¬ (("change" : Str) = "state") := by decide +kernel
theorem ne_changes_state : ¬ (("changes" : Str) = "state") := by decide +kernel
theorem ne_do_again_before : ¬ (("do_again" : Str) = "before") := by decide +kernel
theorem ne_do_again_changes : ¬ (("do_again" : Str) = "changes") := by decide +kernel
theorem ne_do_again_state : ¬ (("do_again" : Str) = "state") := by decide +kernel
theorem ne_do_again_undone : ¬ (("do_again" : Str) = "undone") := by decide +kernel
theorem ne_free_on_ship_boats : ¬ (("free_on_ship" : Str) = "boats") := by decide +kernel
theorem ne_free_on_ship_groups : ¬ (("free_on_ship" : Str) = "groups") := by decide +kernel
theorem ne_free_on_ship_minute : ¬ (("free_on_ship" : Str) = "minute") := by decide +kernel
theorem ne_free_on_ship_on_ship : ¬ (("free_on_ship" : Str) = "on_ship") := by decide +kernel
theorem ne_free_on_ship_on_shore : ¬ (("free_on_ship" : Str) = "on_shore") := by decide +kernel
theorem ne_free_on_ship_sail : ¬ (("free_on_ship" : Str) = "sail") := by decide +kernel
theorem ne_free_on_ship_swell : ¬ (("free_on_ship" : Str) = "swell") := by decide +kernel
theorem ne_free_on_ship_tickets_given : ¬ (("free_on_ship" : Str) = "tickets_given") := by decide +kernel
theorem ne_free_on_ship_times_gone : ¬ (("free_on_ship" : Str) = "times_gone") := by decide +kernel
theorem ne_groups_boats : ¬ (("groups" : Str) = "boats") := by decide +kernel
theorem ne_groups_minute : ¬ (("groups" : Str) = "minute") := by decide +kernel
theorem ne_groups_on_ship : ¬ (("groups" : Str) = "on_ship") := by decide +kernel
theorem ne_groups_on_shore : ¬ (("groups" : Str) = "on_shore") := by decide +kernel
theorem ne_groups_sail : ¬ (("groups" : Str) = "sail") := by decide +kernel
theorem ne_groups_swell : ¬ (("groups" : Str) = "swell") := by decide +kernel
theorem ne_groups_tickets_given : ¬ (("groups" : Str) = "tickets_given") := by decide +kernel
theorem ne_groups_times_gone : ¬ (("groups" : Str) = "times_gone") := by decide +kernel
theorem ne_has_boat_boats : ¬ (("has_boat" : Str) = "boats") := by decide +kernel
theorem ne_has_boat_groups : ¬ (("has_boat" : Str) = "groups") := by decide +kernel
theorem ne_has_boat_minute : ¬ (("has_boat" : Str) = "minute") := by decide +kernel
theorem ne_has_boat_on_ship : ¬ (("has_boat" : Str) = "on_ship") := by decide +kernel
theorem ne_has_boat_on_shore : ¬ (("has_boat" : Str) = "on_shore") := by decide +kernel
theorem ne_has_boat_sail : ¬ (("has_boat" : Str) = "sail") := by decide +kernel
theorem ne_has_boat_swell : ¬ (("has_boat" : Str) = "swell") := by decide +kernel
theorem ne_has_boat_tickets_given : ¬ (("has_boat" : Str) = "tickets_given") := by decide +kernel
theorem ne_has_boat_times_gone : ¬ (("has_boat" : Str) = "times_gone") := by decide +kernel
theorem ne_in_boats_boats : ¬ (("in_boats" : Str) = "boats") := by decide +kernel
theorem ne_in_boats_groups : ¬ (("in_boats" : Str) = "groups") := by decide +kernel
theorem ne_in_boats_minute : ¬ (("in_boats" : Str) = "minute") := by decide +kernel
theorem ne_in_boats_on_ship : ¬ (("in_boats" : Str) = "on_ship") := by decide +kernel
theorem ne_in_boats_on_shore : ¬ (("in_boats" : Str) = "on_shore") := by decide +kernel
theorem ne_in_boats_sail : ¬ (("in_boats" : Str) = "sail") := by decide +kernel
theorem ne_in_boats_swell : ¬ (("in_boats" : Str) = "swell") := by decide +kernel
theorem ne_in_boats_tickets_given : ¬ (("in_boats" : Str) = "tickets_given") := by decide +kernel
theorem ne_in_boats_times_gone : ¬ (("in_boats" : Str) = "times_gone") := by decide +kernel
theorem ne_inside_minutes_left : ¬ (("inside" : Str) = "minutes_left") := by decide +kernel
theorem ne_inside_most_swell : ¬ (("inside" : Str) = "most_swell") := by decide +kernel
theorem ne_inside_seats : ¬ (("inside" : Str) = "seats") := by decide +kernel
theorem ne_inside_to_shore : ¬ (("inside" : Str) = "to_shore") := by decide +kernel
theorem ne_inside_way : ¬ (("inside" : Str) = "way") := by decide +kernel
theorem ne_is_on_its_way_inside : ¬ (("is_on_its_way" : Str) = "inside") := by decide +kernel
theorem ne_is_on_its_way_minutes_left : ¬ (("is_on_its_way" : Str) = "minutes_left") := by decide +kernel
theorem ne_is_on_its_way_most_swell : ¬ (("is_on_its_way" : Str) = "most_swell") := by decide +kernel
theorem ne_is_on_its_way_seats : ¬ (("is_on_its_way" : Str) = "seats") := by decide +kernel
theorem ne_is_on_its_way_to_shore : ¬ (("is_on_its_way" : Str) = "to_shore") := by decide +kernel
theorem ne_is_on_its_way_way : ¬ (("is_on_its_way" : Str) = "way") := by decide +kernel
theorem ne_keep_before : ¬ (("keep" : Str) = "before") := by decide +kernel
theorem ne_keep_undone : ¬ (("keep" : Str) = "undone") := by decide +kernel
theorem ne_may_go_boats : ¬ (("may_go" : Str) = "boats") := by decide +kernel
theorem ne_may_go_groups : ¬ (("may_go" : Str) = "groups") := by decide +kernel
theorem ne_may_go_minute : ¬ (("may_go" : Str) = "minute") := by decide +kernel
theorem ne_may_go_on_ship : ¬ (("may_go" : Str) = "on_ship") := by decide +kernel
theorem ne_may_go_on_shore : ¬ (("may_go" : Str) = "on_shore") := by decide +kernel
theorem ne_may_go_sail : ¬ (("may_go" : Str) = "sail") := by decide +kernel
theorem ne_may_go_swell : ¬ (("may_go" : Str) = "swell") := by decide +kernel
theorem ne_may_go_tickets_given : ¬ (("may_go" : Str) = "tickets_given") := by decide +kernel
theorem ne_may_go_times_gone : ¬ (("may_go" : Str) = "times_gone") := by decide +kernel
theorem ne_minute_boats : ¬ (("minute" : Str) = "boats") := by decide +kernel
theorem ne_minute_groups : ¬ (("minute" : Str) = "groups") := by decide +kernel
theorem ne_minute_on_ship : ¬ (("minute" : Str) = "on_ship") := by decide +kernel
theorem ne_minute_on_shore : ¬ (("minute" : Str) = "on_shore") := by decide +kernel
theorem ne_minute_sail : ¬ (("minute" : Str) = "sail") := by decide +kernel
theorem ne_minute_swell : ¬ (("minute" : Str) = "swell") := by decide +kernel
theorem ne_minute_tickets_given : ¬ (("minute" : Str) = "tickets_given") := by decide +kernel
theorem ne_minute_times_gone : ¬ (("minute" : Str) = "times_gone") := by decide +kernel
theorem ne_minutes_left_inside : ¬ (("minutes_left" : Str) = "inside") := by decide +kernel
theorem ne_minutes_left_most_swell : ¬ (("minutes_left" : Str) = "most_swell") := by decide +kernel
theorem ne_minutes_left_seats : ¬ (("minutes_left" : Str) = "seats") := by decide +kernel
theorem ne_minutes_left_to_shore : ¬ (("minutes_left" : Str) = "to_shore") := by decide +kernel
theorem ne_minutes_left_way : ¬ (("minutes_left" : Str) = "way") := by decide +kernel
theorem ne_most_swell_inside : ¬ (("most_swell" : Str) = "inside") := by decide +kernel
theorem ne_most_swell_minutes_left : ¬ (("most_swell" : Str) = "minutes_left") := by decide +kernel
theorem ne_most_swell_seats : ¬ (("most_swell" : Str) = "seats") := by decide +kernel
theorem ne_most_swell_to_shore : ¬ (("most_swell" : Str) = "to_shore") := by decide +kernel
theorem ne_most_swell_way : ¬ (("most_swell" : Str) = "way") := by decide +kernel
theorem ne_on_ship_boats : ¬ (("on_ship" : Str) = "boats") := by decide +kernel
theorem ne_on_ship_groups : ¬ (("on_ship" : Str) = "groups") := by decide +kernel
theorem ne_on_ship_minute : ¬ (("on_ship" : Str) = "minute") := by decide +kernel
theorem ne_on_ship_on_shore : ¬ (("on_ship" : Str) = "on_shore") := by decide +kernel
theorem ne_on_ship_sail : ¬ (("on_ship" : Str) = "sail") := by decide +kernel
theorem ne_on_ship_swell : ¬ (("on_ship" : Str) = "swell") := by decide +kernel
theorem ne_on_ship_tickets_given : ¬ (("on_ship" : Str) = "tickets_given") := by decide +kernel
theorem ne_on_ship_times_gone : ¬ (("on_ship" : Str) = "times_gone") := by decide +kernel
theorem ne_on_shore_boats : ¬ (("on_shore" : Str) = "boats") := by decide +kernel
theorem ne_on_shore_groups : ¬ (("on_shore" : Str) = "groups") := by decide +kernel
theorem ne_on_shore_minute : ¬ (("on_shore" : Str) = "minute") := by decide +kernel
theorem ne_on_shore_on_ship : ¬ (("on_shore" : Str) = "on_ship") := by decide +kernel
theorem ne_on_shore_sail : ¬ (("on_shore" : Str) = "sail") := by decide +kernel
theorem ne_on_shore_swell : ¬ (("on_shore" : Str) = "swell") := by decide +kernel
theorem ne_on_shore_tickets_given : ¬ (("on_shore" : Str) = "tickets_given") := by decide +kernel
theorem ne_on_shore_times_gone : ¬ (("on_shore" : Str) = "times_gone") := by decide +kernel
theorem ne_sail_boats : ¬ (("sail" : Str) = "boats") := by decide +kernel
theorem ne_sail_groups : ¬ (("sail" : Str) = "groups") := by decide +kernel
theorem ne_sail_minute : ¬ (("sail" : Str) = "minute") := by decide +kernel
theorem ne_sail_on_ship : ¬ (("sail" : Str) = "on_ship") := by decide +kernel
theorem ne_sail_on_shore : ¬ (("sail" : Str) = "on_shore") := by decide +kernel
theorem ne_sail_swell : ¬ (("sail" : Str) = "swell") := by decide +kernel
theorem ne_sail_tickets_given : ¬ (("sail" : Str) = "tickets_given") := by decide +kernel
theorem ne_sail_times_gone : ¬ (("sail" : Str) = "times_gone") := by decide +kernel
theorem ne_seats_inside : ¬ (("seats" : Str) = "inside") := by decide +kernel
theorem ne_seats_minutes_left : ¬ (("seats" : Str) = "minutes_left") := by decide +kernel
theorem ne_seats_most_swell : ¬ (("seats" : Str) = "most_swell") := by decide +kernel
theorem ne_seats_to_shore : ¬ (("seats" : Str) = "to_shore") := by decide +kernel
theorem ne_seats_way : ¬ (("seats" : Str) = "way") := by decide +kernel
theorem ne_seats_left_inside : ¬ (("seats_left" : Str) = "inside") := by decide +kernel
theorem ne_seats_left_minutes_left : ¬ (("seats_left" : Str) = "minutes_left") := by decide +kernel
theorem ne_seats_left_most_swell : ¬ (("seats_left" : Str) = "most_swell") := by decide +kernel
theorem ne_seats_left_seats : ¬ (("seats_left" : Str) = "seats") := by decide +kernel
theorem ne_seats_left_to_shore : ¬ (("seats_left" : Str) = "to_shore") := by decide +kernel
theorem ne_seats_left_way : ¬ (("seats_left" : Str) = "way") := by decide +kernel
theorem ne_state_changes : ¬ (("state" : Str) = "changes") := by decide +kernel
theorem ne_swell_boats : ¬ (("swell" : Str) = "boats") := by decide +kernel
theorem ne_swell_groups : ¬ (("swell" : Str) = "groups") := by decide +kernel
theorem ne_swell_minute : ¬ (("swell" : Str) = "minute") := by decide +kernel
theorem ne_swell_on_ship : ¬ (("swell" : Str) = "on_ship") := by decide +kernel
theorem ne_swell_on_shore : ¬ (("swell" : Str) = "on_shore") := by decide +kernel
theorem ne_swell_sail : ¬ (("swell" : Str) = "sail") := by decide +kernel
theorem ne_swell_tickets_given : ¬ (("swell" : Str) = "tickets_given") := by decide +kernel
theorem ne_swell_times_gone : ¬ (("swell" : Str) = "times_gone") := by decide +kernel
theorem ne_take_back_before : ¬ (("take_back" : Str) = "before") := by decide +kernel
theorem ne_take_back_changes : ¬ (("take_back" : Str) = "changes") := by decide +kernel
theorem ne_take_back_state : ¬ (("take_back" : Str) = "state") := by decide +kernel
theorem ne_take_back_undone : ¬ (("take_back" : Str) = "undone") := by decide +kernel
theorem ne_tickets_given_boats : ¬ (("tickets_given" : Str) = "boats") := by decide +kernel
theorem ne_tickets_given_groups : ¬ (("tickets_given" : Str) = "groups") := by decide +kernel
theorem ne_tickets_given_minute : ¬ (("tickets_given" : Str) = "minute") := by decide +kernel
theorem ne_tickets_given_on_ship : ¬ (("tickets_given" : Str) = "on_ship") := by decide +kernel
theorem ne_tickets_given_on_shore : ¬ (("tickets_given" : Str) = "on_shore") := by decide +kernel
theorem ne_tickets_given_sail : ¬ (("tickets_given" : Str) = "sail") := by decide +kernel
theorem ne_tickets_given_swell : ¬ (("tickets_given" : Str) = "swell") := by decide +kernel
theorem ne_tickets_given_times_gone : ¬ (("tickets_given" : Str) = "times_gone") := by decide +kernel
theorem ne_times_gone_boats : ¬ (("times_gone" : Str) = "boats") := by decide +kernel
theorem ne_times_gone_groups : ¬ (("times_gone" : Str) = "groups") := by decide +kernel
theorem ne_times_gone_minute : ¬ (("times_gone" : Str) = "minute") := by decide +kernel
theorem ne_times_gone_on_ship : ¬ (("times_gone" : Str) = "on_ship") := by decide +kernel
theorem ne_times_gone_on_shore : ¬ (("times_gone" : Str) = "on_shore") := by decide +kernel
theorem ne_times_gone_sail : ¬ (("times_gone" : Str) = "sail") := by decide +kernel
theorem ne_times_gone_swell : ¬ (("times_gone" : Str) = "swell") := by decide +kernel
theorem ne_times_gone_tickets_given : ¬ (("times_gone" : Str) = "tickets_given") := by decide +kernel
theorem ne_to_shore_inside : ¬ (("to_shore" : Str) = "inside") := by decide +kernel
theorem ne_to_shore_minutes_left : ¬ (("to_shore" : Str) = "minutes_left") := by decide +kernel
theorem ne_to_shore_most_swell : ¬ (("to_shore" : Str) = "most_swell") := by decide +kernel
theorem ne_to_shore_seats : ¬ (("to_shore" : Str) = "seats") := by decide +kernel
theorem ne_to_shore_way : ¬ (("to_shore" : Str) = "way") := by decide +kernel
theorem ne_twin_boats : ¬ (("twin" : Str) = "boats") := by decide +kernel
theorem ne_twin_groups : ¬ (("twin" : Str) = "groups") := by decide +kernel
theorem ne_twin_inside : ¬ (("twin" : Str) = "inside") := by decide +kernel
theorem ne_twin_minute : ¬ (("twin" : Str) = "minute") := by decide +kernel
theorem ne_twin_minutes_left : ¬ (("twin" : Str) = "minutes_left") := by decide +kernel
theorem ne_twin_most_swell : ¬ (("twin" : Str) = "most_swell") := by decide +kernel
theorem ne_twin_on_ship : ¬ (("twin" : Str) = "on_ship") := by decide +kernel
theorem ne_twin_on_shore : ¬ (("twin" : Str) = "on_shore") := by decide +kernel
theorem ne_twin_sail : ¬ (("twin" : Str) = "sail") := by decide +kernel
theorem ne_twin_seats : ¬ (("twin" : Str) = "seats") := by decide +kernel
theorem ne_twin_swell : ¬ (("twin" : Str) = "swell") := by decide +kernel
theorem ne_twin_tickets_given : ¬ (("twin" : Str) = "tickets_given") := by decide +kernel
theorem ne_twin_times_gone : ¬ (("twin" : Str) = "times_gone") := by decide +kernel
theorem ne_twin_to_shore : ¬ (("twin" : Str) = "to_shore") := by decide +kernel
theorem ne_twin_way : ¬ (("twin" : Str) = "way") := by decide +kernel
theorem ne_undone_before : ¬ (("undone" : Str) = "before") := by decide +kernel
theorem ne_waiting_boats : ¬ (("waiting" : Str) = "boats") := by decide +kernel
theorem ne_waiting_groups : ¬ (("waiting" : Str) = "groups") := by decide +kernel
theorem ne_waiting_minute : ¬ (("waiting" : Str) = "minute") := by decide +kernel
theorem ne_waiting_on_ship : ¬ (("waiting" : Str) = "on_ship") := by decide +kernel
theorem ne_waiting_on_shore : ¬ (("waiting" : Str) = "on_shore") := by decide +kernel
theorem ne_waiting_sail : ¬ (("waiting" : Str) = "sail") := by decide +kernel
theorem ne_waiting_swell : ¬ (("waiting" : Str) = "swell") := by decide +kernel
theorem ne_waiting_tickets_given : ¬ (("waiting" : Str) = "tickets_given") := by decide +kernel
theorem ne_waiting_times_gone : ¬ (("waiting" : Str) = "times_gone") := by decide +kernel
theorem ne_way_inside : ¬ (("way" : Str) = "inside") := by decide +kernel
theorem ne_way_minutes_left : ¬ (("way" : Str) = "minutes_left") := by decide +kernel
theorem ne_way_most_swell : ¬ (("way" : Str) = "most_swell") := by decide +kernel
theorem ne_way_seats : ¬ (("way" : Str) = "seats") := by decide +kernel
theorem ne_way_to_shore : ¬ (("way" : Str) = "to_shore") := by decide +kernel
def bF (b : Km439.Boat) : List (Str × V) := [("seats", .int b.seats), ("way", .int b.way), ("most_swell", .int b.swell), ("inside", .int b.in_), ("to_shore", .bl b.shore), ("minutes_left", .int b.left)]
theorem bF_seats (b : Km439.Boat) : (bF b).lookup ("seats" : Str) = some (.int b.seats) := lk0
theorem bF_way (b : Km439.Boat) : (bF b).lookup ("way" : Str) = some (.int b.way) := (lk ne_way_seats lk0)
theorem bF_most_swell (b : Km439.Boat) : (bF b).lookup ("most_swell" : Str) = some (.int b.swell) := (lk ne_most_swell_seats (lk ne_most_swell_way lk0))
theorem bF_inside (b : Km439.Boat) : (bF b).lookup ("inside" : Str) = some (.int b.in_) := (lk ne_inside_seats (lk ne_inside_way (lk ne_inside_most_swell lk0)))
theorem bF_to_shore (b : Km439.Boat) : (bF b).lookup ("to_shore" : Str) = some (.bl b.shore) := (lk ne_to_shore_seats (lk ne_to_shore_way (lk ne_to_shore_most_swell (lk ne_to_shore_inside lk0))))
theorem bF_minutes_left (b : Km439.Boat) : (bF b).lookup ("minutes_left" : Str) = some (.int b.left) := (lk ne_minutes_left_seats (lk ne_minutes_left_way (lk ne_minutes_left_most_swell (lk ne_minutes_left_inside (lk ne_minutes_left_to_shore lk0)))))
theorem bF_no_is_on_its_way (b : Km439.Boat) : (bF b).lookup ("is_on_its_way" : Str) = none := (lk ne_is_on_its_way_seats (lk ne_is_on_its_way_way (lk ne_is_on_its_way_most_swell (lk ne_is_on_its_way_inside (lk ne_is_on_its_way_to_shore (lk ne_is_on_its_way_minutes_left rfl))))))
theorem bF_no_seats_left (b : Km439.Boat) : (bF b).lookup ("seats_left" : Str) = none := (lk ne_seats_left_seats (lk ne_seats_left_way (lk ne_seats_left_most_swell (lk ne_seats_left_inside (lk ne_seats_left_to_shore (lk ne_seats_left_minutes_left rfl))))))
theorem bF_no_twin (b : Km439.Boat) : (bF b).lookup ("twin" : Str) = none := (lk ne_twin_seats (lk ne_twin_way (lk ne_twin_most_swell (lk ne_twin_inside (lk ne_twin_to_shore (lk ne_twin_minutes_left rfl))))))
theorem bF_put_seats (b : Km439.Boat) (y : V) : putF "seats" y (bF b) = ([("seats", y), ("way", .int b.way), ("most_swell", .int b.swell), ("inside", .int b.in_), ("to_shore", .bl b.shore), ("minutes_left", .int b.left)] : List (Str × V)) := pf1
theorem bF_put_way (b : Km439.Boat) (y : V) : putF "way" y (bF b) = ([("seats", .int b.seats), ("way", y), ("most_swell", .int b.swell), ("inside", .int b.in_), ("to_shore", .bl b.shore), ("minutes_left", .int b.left)] : List (Str × V)) := (pf ne_seats_way pf1)
theorem bF_put_most_swell (b : Km439.Boat) (y : V) : putF "most_swell" y (bF b) = ([("seats", .int b.seats), ("way", .int b.way), ("most_swell", y), ("inside", .int b.in_), ("to_shore", .bl b.shore), ("minutes_left", .int b.left)] : List (Str × V)) := (pf ne_seats_most_swell (pf ne_way_most_swell pf1))
theorem bF_put_inside (b : Km439.Boat) (y : V) : putF "inside" y (bF b) = ([("seats", .int b.seats), ("way", .int b.way), ("most_swell", .int b.swell), ("inside", y), ("to_shore", .bl b.shore), ("minutes_left", .int b.left)] : List (Str × V)) := (pf ne_seats_inside (pf ne_way_inside (pf ne_most_swell_inside pf1)))
theorem bF_put_to_shore (b : Km439.Boat) (y : V) : putF "to_shore" y (bF b) = ([("seats", .int b.seats), ("way", .int b.way), ("most_swell", .int b.swell), ("inside", .int b.in_), ("to_shore", y), ("minutes_left", .int b.left)] : List (Str × V)) := (pf ne_seats_to_shore (pf ne_way_to_shore (pf ne_most_swell_to_shore (pf ne_inside_to_shore pf1))))
theorem bF_put_minutes_left (b : Km439.Boat) (y : V) : putF "minutes_left" y (bF b) = ([("seats", .int b.seats), ("way", .int b.way), ("most_swell", .int b.swell), ("inside", .int b.in_), ("to_shore", .bl b.shore), ("minutes_left", y)] : List (Str × V)) := (pf ne_seats_minutes_left (pf ne_way_minutes_left (pf ne_most_swell_minutes_left (pf ne_inside_minutes_left (pf ne_to_shore_minutes_left pf1)))))
theorem bF_new (v0 v1 v2 v3 v4 v5 : V) : putF "minutes_left" v5 (putF "to_shore" v4 (putF "inside" v3 (putF "most_swell" v2 (putF "way" v1 (putF "seats" v0 []))))) = ([("seats", v0), ("way", v1), ("most_swell", v2), ("inside", v3), ("to_shore", v4), ("minutes_left", v5)] : List (Str × V)) := by
  have e0 : putF "seats" v0 [] = ([("seats", v0)] : List (Str × V)) := pf0
  have e1 : putF "way" v1 [("seats", v0)] = ([("seats", v0), ("way", v1)] : List (Str × V)) := (pf ne_seats_way pf0)
  have e2 : putF "most_swell" v2 [("seats", v0), ("way", v1)] = ([("seats", v0), ("way", v1), ("most_swell", v2)] : List (Str × V)) := (pf ne_seats_most_swell (pf ne_way_most_swell pf0))
  have e3 : putF "inside" v3 [("seats", v0), ("way", v1), ("most_swell", v2)] = ([("seats", v0), ("way", v1), ("most_swell", v2), ("inside", v3)] : List (Str × V)) := (pf ne_seats_inside (pf ne_way_inside (pf ne_most_swell_inside pf0)))
  have e4 : putF "to_shore" v4 [("seats", v0), ("way", v1), ("most_swell", v2), ("inside", v3)] = ([("seats", v0), ("way", v1), ("most_swell", v2), ("inside", v3), ("to_shore", v4)] : List (Str × V)) := (pf ne_seats_to_shore (pf ne_way_to_shore (pf ne_most_swell_to_shore (pf ne_inside_to_shore pf0))))
  have e5 : putF "minutes_left" v5 [("seats", v0), ("way", v1), ("most_swell", v2), ("inside", v3), ("to_shore", v4)] = ([("seats", v0), ("way", v1), ("most_swell", v2), ("inside", v3), ("to_shore", v4), ("minutes_left", v5)] : List (Str × V)) := (pf ne_seats_minutes_left (pf ne_way_minutes_left (pf ne_most_swell_minutes_left (pf ne_inside_minutes_left (pf ne_to_shore_minutes_left pf0)))))
  rw [e0, e1, e2, e3, e4, e5]
def sF (s : Km439.Sea) (bl ql : Addr) : List (Str × V) := [("on_ship", .int s.ship), ("on_shore", .int s.shore), ("sail", .int s.sail), ("minute", .int s.time), ("swell", .int s.swell), ("boats", .ref bl), ("groups", .ref ql), ("times_gone", .int s.ways), ("tickets_given", .int s.tickets)]
theorem sF_on_ship (s : Km439.Sea) (bl ql : Addr) : (sF s bl ql).lookup ("on_ship" : Str) = some (.int s.ship) := lk0
theorem sF_on_shore (s : Km439.Sea) (bl ql : Addr) : (sF s bl ql).lookup ("on_shore" : Str) = some (.int s.shore) := (lk ne_on_shore_on_ship lk0)
theorem sF_sail (s : Km439.Sea) (bl ql : Addr) : (sF s bl ql).lookup ("sail" : Str) = some (.int s.sail) := (lk ne_sail_on_ship (lk ne_sail_on_shore lk0))
theorem sF_minute (s : Km439.Sea) (bl ql : Addr) : (sF s bl ql).lookup ("minute" : Str) = some (.int s.time) := (lk ne_minute_on_ship (lk ne_minute_on_shore (lk ne_minute_sail lk0)))
theorem sF_swell (s : Km439.Sea) (bl ql : Addr) : (sF s bl ql).lookup ("swell" : Str) = some (.int s.swell) := (lk ne_swell_on_ship (lk ne_swell_on_shore (lk ne_swell_sail (lk ne_swell_minute lk0))))
theorem sF_boats (s : Km439.Sea) (bl ql : Addr) : (sF s bl ql).lookup ("boats" : Str) = some (.ref bl) := (lk ne_boats_on_ship (lk ne_boats_on_shore (lk ne_boats_sail (lk ne_boats_minute (lk ne_boats_swell lk0)))))
theorem sF_groups (s : Km439.Sea) (bl ql : Addr) : (sF s bl ql).lookup ("groups" : Str) = some (.ref ql) := (lk ne_groups_on_ship (lk ne_groups_on_shore (lk ne_groups_sail (lk ne_groups_minute (lk ne_groups_swell (lk ne_groups_boats lk0))))))
theorem sF_times_gone (s : Km439.Sea) (bl ql : Addr) : (sF s bl ql).lookup ("times_gone" : Str) = some (.int s.ways) := (lk ne_times_gone_on_ship (lk ne_times_gone_on_shore (lk ne_times_gone_sail (lk ne_times_gone_minute (lk ne_times_gone_swell (lk ne_times_gone_boats (lk ne_times_gone_groups lk0)))))))
theorem sF_tickets_given (s : Km439.Sea) (bl ql : Addr) : (sF s bl ql).lookup ("tickets_given" : Str) = some (.int s.tickets) := (lk ne_tickets_given_on_ship (lk ne_tickets_given_on_shore (lk ne_tickets_given_sail (lk ne_tickets_given_minute (lk ne_tickets_given_swell (lk ne_tickets_given_boats (lk ne_tickets_given_groups (lk ne_tickets_given_times_gone lk0))))))))
theorem sF_no_has_boat (s : Km439.Sea) (bl ql : Addr) : (sF s bl ql).lookup ("has_boat" : Str) = none := (lk ne_has_boat_on_ship (lk ne_has_boat_on_shore (lk ne_has_boat_sail (lk ne_has_boat_minute (lk ne_has_boat_swell (lk ne_has_boat_boats (lk ne_has_boat_groups (lk ne_has_boat_times_gone (lk ne_has_boat_tickets_given rfl)))))))))
theorem sF_no_may_go (s : Km439.Sea) (bl ql : Addr) : (sF s bl ql).lookup ("may_go" : Str) = none := (lk ne_may_go_on_ship (lk ne_may_go_on_shore (lk ne_may_go_sail (lk ne_may_go_minute (lk ne_may_go_swell (lk ne_may_go_boats (lk ne_may_go_groups (lk ne_may_go_times_gone (lk ne_may_go_tickets_given rfl)))))))))
theorem sF_no_waiting (s : Km439.Sea) (bl ql : Addr) : (sF s bl ql).lookup ("waiting" : Str) = none := (lk ne_waiting_on_ship (lk ne_waiting_on_shore (lk ne_waiting_sail (lk ne_waiting_minute (lk ne_waiting_swell (lk ne_waiting_boats (lk ne_waiting_groups (lk ne_waiting_times_gone (lk ne_waiting_tickets_given rfl)))))))))
theorem sF_no_in_boats (s : Km439.Sea) (bl ql : Addr) : (sF s bl ql).lookup ("in_boats" : Str) = none := (lk ne_in_boats_on_ship (lk ne_in_boats_on_shore (lk ne_in_boats_sail (lk ne_in_boats_minute (lk ne_in_boats_swell (lk ne_in_boats_boats (lk ne_in_boats_groups (lk ne_in_boats_times_gone (lk ne_in_boats_tickets_given rfl)))))))))
theorem sF_no_free_on_ship (s : Km439.Sea) (bl ql : Addr) : (sF s bl ql).lookup ("free_on_ship" : Str) = none := (lk ne_free_on_ship_on_ship (lk ne_free_on_ship_on_shore (lk ne_free_on_ship_sail (lk ne_free_on_ship_minute (lk ne_free_on_ship_swell (lk ne_free_on_ship_boats (lk ne_free_on_ship_groups (lk ne_free_on_ship_times_gone (lk ne_free_on_ship_tickets_given rfl)))))))))
theorem sF_no_twin (s : Km439.Sea) (bl ql : Addr) : (sF s bl ql).lookup ("twin" : Str) = none := (lk ne_twin_on_ship (lk ne_twin_on_shore (lk ne_twin_sail (lk ne_twin_minute (lk ne_twin_swell (lk ne_twin_boats (lk ne_twin_groups (lk ne_twin_times_gone (lk ne_twin_tickets_given rfl)))))))))
theorem sF_put_on_ship (s : Km439.Sea) (bl ql : Addr) (y : V) : putF "on_ship" y (sF s bl ql) = ([("on_ship", y), ("on_shore", .int s.shore), ("sail", .int s.sail), ("minute", .int s.time), ("swell", .int s.swell), ("boats", .ref bl), ("groups", .ref ql), ("times_gone", .int s.ways), ("tickets_given", .int s.tickets)] : List (Str × V)) := pf1
theorem sF_put_on_shore (s : Km439.Sea) (bl ql : Addr) (y : V) : putF "on_shore" y (sF s bl ql) = ([("on_ship", .int s.ship), ("on_shore", y), ("sail", .int s.sail), ("minute", .int s.time), ("swell", .int s.swell), ("boats", .ref bl), ("groups", .ref ql), ("times_gone", .int s.ways), ("tickets_given", .int s.tickets)] : List (Str × V)) := (pf ne_on_ship_on_shore pf1)
theorem sF_put_sail (s : Km439.Sea) (bl ql : Addr) (y : V) : putF "sail" y (sF s bl ql) = ([("on_ship", .int s.ship), ("on_shore", .int s.shore), ("sail", y), ("minute", .int s.time), ("swell", .int s.swell), ("boats", .ref bl), ("groups", .ref ql), ("times_gone", .int s.ways), ("tickets_given", .int s.tickets)] : List (Str × V)) := (pf ne_on_ship_sail (pf ne_on_shore_sail pf1))
theorem sF_put_minute (s : Km439.Sea) (bl ql : Addr) (y : V) : putF "minute" y (sF s bl ql) = ([("on_ship", .int s.ship), ("on_shore", .int s.shore), ("sail", .int s.sail), ("minute", y), ("swell", .int s.swell), ("boats", .ref bl), ("groups", .ref ql), ("times_gone", .int s.ways), ("tickets_given", .int s.tickets)] : List (Str × V)) := (pf ne_on_ship_minute (pf ne_on_shore_minute (pf ne_sail_minute pf1)))
theorem sF_put_swell (s : Km439.Sea) (bl ql : Addr) (y : V) : putF "swell" y (sF s bl ql) = ([("on_ship", .int s.ship), ("on_shore", .int s.shore), ("sail", .int s.sail), ("minute", .int s.time), ("swell", y), ("boats", .ref bl), ("groups", .ref ql), ("times_gone", .int s.ways), ("tickets_given", .int s.tickets)] : List (Str × V)) := (pf ne_on_ship_swell (pf ne_on_shore_swell (pf ne_sail_swell (pf ne_minute_swell pf1))))
theorem sF_put_boats (s : Km439.Sea) (bl ql : Addr) (y : V) : putF "boats" y (sF s bl ql) = ([("on_ship", .int s.ship), ("on_shore", .int s.shore), ("sail", .int s.sail), ("minute", .int s.time), ("swell", .int s.swell), ("boats", y), ("groups", .ref ql), ("times_gone", .int s.ways), ("tickets_given", .int s.tickets)] : List (Str × V)) := (pf ne_on_ship_boats (pf ne_on_shore_boats (pf ne_sail_boats (pf ne_minute_boats (pf ne_swell_boats pf1)))))
theorem sF_put_groups (s : Km439.Sea) (bl ql : Addr) (y : V) : putF "groups" y (sF s bl ql) = ([("on_ship", .int s.ship), ("on_shore", .int s.shore), ("sail", .int s.sail), ("minute", .int s.time), ("swell", .int s.swell), ("boats", .ref bl), ("groups", y), ("times_gone", .int s.ways), ("tickets_given", .int s.tickets)] : List (Str × V)) := (pf ne_on_ship_groups (pf ne_on_shore_groups (pf ne_sail_groups (pf ne_minute_groups (pf ne_swell_groups (pf ne_boats_groups pf1))))))
theorem sF_put_times_gone (s : Km439.Sea) (bl ql : Addr) (y : V) : putF "times_gone" y (sF s bl ql) = ([("on_ship", .int s.ship), ("on_shore", .int s.shore), ("sail", .int s.sail), ("minute", .int s.time), ("swell", .int s.swell), ("boats", .ref bl), ("groups", .ref ql), ("times_gone", y), ("tickets_given", .int s.tickets)] : List (Str × V)) := (pf ne_on_ship_times_gone (pf ne_on_shore_times_gone (pf ne_sail_times_gone (pf ne_minute_times_gone (pf ne_swell_times_gone (pf ne_boats_times_gone (pf ne_groups_times_gone pf1)))))))
theorem sF_put_tickets_given (s : Km439.Sea) (bl ql : Addr) (y : V) : putF "tickets_given" y (sF s bl ql) = ([("on_ship", .int s.ship), ("on_shore", .int s.shore), ("sail", .int s.sail), ("minute", .int s.time), ("swell", .int s.swell), ("boats", .ref bl), ("groups", .ref ql), ("times_gone", .int s.ways), ("tickets_given", y)] : List (Str × V)) := (pf ne_on_ship_tickets_given (pf ne_on_shore_tickets_given (pf ne_sail_tickets_given (pf ne_minute_tickets_given (pf ne_swell_tickets_given (pf ne_boats_tickets_given (pf ne_groups_tickets_given (pf ne_times_gone_tickets_given pf1))))))))
theorem sF_new (v0 v1 v2 v3 v4 v5 v6 v7 v8 : V) : putF "tickets_given" v8 (putF "times_gone" v7 (putF "groups" v6 (putF "boats" v5 (putF "swell" v4 (putF "minute" v3 (putF "sail" v2 (putF "on_shore" v1 (putF "on_ship" v0 [])))))))) = ([("on_ship", v0), ("on_shore", v1), ("sail", v2), ("minute", v3), ("swell", v4), ("boats", v5), ("groups", v6), ("times_gone", v7), ("tickets_given", v8)] : List (Str × V)) := by
  have e0 : putF "on_ship" v0 [] = ([("on_ship", v0)] : List (Str × V)) := pf0
  have e1 : putF "on_shore" v1 [("on_ship", v0)] = ([("on_ship", v0), ("on_shore", v1)] : List (Str × V)) := (pf ne_on_ship_on_shore pf0)
  have e2 : putF "sail" v2 [("on_ship", v0), ("on_shore", v1)] = ([("on_ship", v0), ("on_shore", v1), ("sail", v2)] : List (Str × V)) := (pf ne_on_ship_sail (pf ne_on_shore_sail pf0))
  have e3 : putF "minute" v3 [("on_ship", v0), ("on_shore", v1), ("sail", v2)] = ([("on_ship", v0), ("on_shore", v1), ("sail", v2), ("minute", v3)] : List (Str × V)) := (pf ne_on_ship_minute (pf ne_on_shore_minute (pf ne_sail_minute pf0)))
  have e4 : putF "swell" v4 [("on_ship", v0), ("on_shore", v1), ("sail", v2), ("minute", v3)] = ([("on_ship", v0), ("on_shore", v1), ("sail", v2), ("minute", v3), ("swell", v4)] : List (Str × V)) := (pf ne_on_ship_swell (pf ne_on_shore_swell (pf ne_sail_swell (pf ne_minute_swell pf0))))
  have e5 : putF "boats" v5 [("on_ship", v0), ("on_shore", v1), ("sail", v2), ("minute", v3), ("swell", v4)] = ([("on_ship", v0), ("on_shore", v1), ("sail", v2), ("minute", v3), ("swell", v4), ("boats", v5)] : List (Str × V)) := (pf ne_on_ship_boats (pf ne_on_shore_boats (pf ne_sail_boats (pf ne_minute_boats (pf ne_swell_boats pf0)))))
  have e6 : putF "groups" v6 [("on_ship", v0), ("on_shore", v1), ("sail", v2), ("minute", v3), ("swell", v4), ("boats", v5)] = ([("on_ship", v0), ("on_shore", v1), ("sail", v2), ("minute", v3), ("swell", v4), ("boats", v5), ("groups", v6)] : List (Str × V)) := (pf ne_on_ship_groups (pf ne_on_shore_groups (pf ne_sail_groups (pf ne_minute_groups (pf ne_swell_groups (pf ne_boats_groups pf0))))))
  have e7 : putF "times_gone" v7 [("on_ship", v0), ("on_shore", v1), ("sail", v2), ("minute", v3), ("swell", v4), ("boats", v5), ("groups", v6)] = ([("on_ship", v0), ("on_shore", v1), ("sail", v2), ("minute", v3), ("swell", v4), ("boats", v5), ("groups", v6), ("times_gone", v7)] : List (Str × V)) := (pf ne_on_ship_times_gone (pf ne_on_shore_times_gone (pf ne_sail_times_gone (pf ne_minute_times_gone (pf ne_swell_times_gone (pf ne_boats_times_gone (pf ne_groups_times_gone pf0)))))))
  have e8 : putF "tickets_given" v8 [("on_ship", v0), ("on_shore", v1), ("sail", v2), ("minute", v3), ("swell", v4), ("boats", v5), ("groups", v6), ("times_gone", v7)] = ([("on_ship", v0), ("on_shore", v1), ("sail", v2), ("minute", v3), ("swell", v4), ("boats", v5), ("groups", v6), ("times_gone", v7), ("tickets_given", v8)] : List (Str × V)) := (pf ne_on_ship_tickets_given (pf ne_on_shore_tickets_given (pf ne_sail_tickets_given (pf ne_minute_tickets_given (pf ne_swell_tickets_given (pf ne_boats_tickets_given (pf ne_groups_tickets_given (pf ne_times_gone_tickets_given pf0))))))))
  rw [e0, e1, e2, e3, e4, e5, e6, e7, e8]
def cF (bf ud : Addr) : List (Str × V) := [("before", .ref bf), ("undone", .ref ud)]
theorem cF_before (bf ud : Addr) : (cF bf ud).lookup ("before" : Str) = some (.ref bf) := lk0
theorem cF_undone (bf ud : Addr) : (cF bf ud).lookup ("undone" : Str) = some (.ref ud) := (lk ne_undone_before lk0)
theorem cF_no_keep (bf ud : Addr) : (cF bf ud).lookup ("keep" : Str) = none := (lk ne_keep_before (lk ne_keep_undone rfl))
theorem cF_no_take_back (bf ud : Addr) : (cF bf ud).lookup ("take_back" : Str) = none := (lk ne_take_back_before (lk ne_take_back_undone rfl))
theorem cF_no_do_again (bf ud : Addr) : (cF bf ud).lookup ("do_again" : Str) = none := (lk ne_do_again_before (lk ne_do_again_undone rfl))
theorem cF_put_before (bf ud : Addr) (y : V) : putF "before" y (cF bf ud) = ([("before", y), ("undone", .ref ud)] : List (Str × V)) := pf1
theorem cF_put_undone (bf ud : Addr) (y : V) : putF "undone" y (cF bf ud) = ([("before", .ref bf), ("undone", y)] : List (Str × V)) := (pf ne_before_undone pf1)
theorem cF_new (v0 v1 : V) : putF "undone" v1 (putF "before" v0 []) = ([("before", v0), ("undone", v1)] : List (Str × V)) := by
  have e0 : putF "before" v0 [] = ([("before", v0)] : List (Str × V)) := pf0
  have e1 : putF "undone" v1 [("before", v0)] = ([("before", v0), ("undone", v1)] : List (Str × V)) := (pf ne_before_undone pf0)
  rw [e0, e1]
def hF (st : V) (ch : Addr) : List (Str × V) := [("state", st), ("changes", .ref ch)]
theorem hF_state (st : V) (ch : Addr) : (hF st ch).lookup ("state" : Str) = some (st) := lk0
theorem hF_changes (st : V) (ch : Addr) : (hF st ch).lookup ("changes" : Str) = some (.ref ch) := (lk ne_changes_state lk0)
theorem hF_no_answer (st : V) (ch : Addr) : (hF st ch).lookup ("answer" : Str) = none := (lk ne_answer_state (lk ne_answer_changes rfl))
theorem hF_no_begin (st : V) (ch : Addr) : (hF st ch).lookup ("begin" : Str) = none := (lk ne_begin_state (lk ne_begin_changes rfl))
theorem hF_no_change (st : V) (ch : Addr) : (hF st ch).lookup ("change" : Str) = none := (lk ne_change_state (lk ne_change_changes rfl))
theorem hF_no_take_back (st : V) (ch : Addr) : (hF st ch).lookup ("take_back" : Str) = none := (lk ne_take_back_state (lk ne_take_back_changes rfl))
theorem hF_no_do_again (st : V) (ch : Addr) : (hF st ch).lookup ("do_again" : Str) = none := (lk ne_do_again_state (lk ne_do_again_changes rfl))
theorem hF_put_state (st : V) (ch : Addr) (y : V) : putF "state" y (hF st ch) = ([("state", y), ("changes", .ref ch)] : List (Str × V)) := pf1
theorem hF_put_changes (st : V) (ch : Addr) (y : V) : putF "changes" y (hF st ch) = ([("state", st), ("changes", y)] : List (Str × V)) := (pf ne_state_changes pf1)
theorem hF_new (v0 v1 : V) : putF "changes" v1 (putF "state" v0 []) = ([("state", v0), ("changes", v1)] : List (Str × V)) := by
  have e0 : putF "state" v0 [] = ([("state", v0)] : List (Str × V)) := pf0
  have e1 : putF "changes" v1 [("state", v0)] = ([("state", v0), ("changes", v1)] : List (Str × V)) := (pf ne_state_changes pf0)
  rw [e0, e1]
end Bts

end
section
set_option Elab.async false
set_option linter.all false
set_option maxRecDepth 100000
set_option maxHeartbeats 4000000
namespace Bts
open PySem PySem.Spec PyProof.Rows L2
/-! the text by places; made by gen.py -/
def top (i : Nat) : Stmt := PySem.Challenge.pw_boatstoshore_s01_answers.main.body.getD i (.Pass ⟨0, 0, 0, 0⟩)
abbrev s_Boat_init : Stmt := inClass (top 23) 0
abbrev N_Boat_init : List Str := ["self", "seats", "way", "most_swell"]
abbrev P_Boat_init : List Str := ["self", "seats", "way", "most_swell"]
abbrev s_Boat_is_on_its_way : Stmt := inClass (top 23) 1
abbrev N_Boat_is_on_its_way : List Str := ["self"]
abbrev P_Boat_is_on_its_way : List Str := ["self"]
abbrev s_Boat_seats_left : Stmt := inClass (top 23) 2
abbrev N_Boat_seats_left : List Str := ["self"]
abbrev P_Boat_seats_left : List Str := ["self"]
abbrev s_Boat_twin : Stmt := inClass (top 23) 3
abbrev N_Boat_twin : List Str := ["self", "other"]
abbrev P_Boat_twin : List Str := ["self"]
abbrev s_State_init : Stmt := inClass (top 24) 0
abbrev N_State_init : List Str := ["self", "persons", "sail"]
abbrev P_State_init : List Str := ["self", "persons", "sail"]
abbrev s_State_has_boat : Stmt := inClass (top 24) 1
abbrev N_State_has_boat : List Str := ["self", "b"]
abbrev P_State_has_boat : List Str := ["self", "b"]
abbrev s_State_may_go : Stmt := inClass (top 24) 2
abbrev N_State_may_go : List Str := ["self", "boat"]
abbrev P_State_may_go : List Str := ["self", "boat"]
abbrev s_State_waiting : Stmt := inClass (top 24) 3
abbrev N_State_waiting : List Str := ["self", "ticket", "persons"]
abbrev P_State_waiting : List Str := ["self"]
abbrev s_State_in_boats : Stmt := inClass (top 24) 4
abbrev N_State_in_boats : List Str := ["self", "boat"]
abbrev P_State_in_boats : List Str := ["self"]
abbrev s_State_free_on_ship : Stmt := inClass (top 24) 5
abbrev N_State_free_on_ship : List Str := ["self"]
abbrev P_State_free_on_ship : List Str := ["self"]
abbrev s_State_twin : Stmt := inClass (top 24) 6
abbrev N_State_twin : List Str := ["self", "other", "boat"]
abbrev P_State_twin : List Str := ["self"]
abbrev s_bs_boat : Stmt := top 26
abbrev N_bs_boat : List Str := ["state", "seats", "way", "swell"]
abbrev P_bs_boat : List Str := ["state", "seats", "way", "swell"]
abbrev s_bs_into : Stmt := top 27
abbrev N_bs_into : List Str := ["state", "b", "n", "refusal", "boat"]
abbrev P_bs_into : List Str := ["state", "b", "n"]
abbrev s_bs_out : Stmt := top 28
abbrev N_bs_out : List Str := ["state", "b", "n", "refusal", "boat"]
abbrev P_bs_out : List Str := ["state", "b", "n"]
abbrev s_bs_go : Stmt := top 29
abbrev N_bs_go : List Str := ["state", "b", "boat"]
abbrev P_bs_go : List Str := ["state", "b"]
abbrev s_refusal_to_move : Stmt := top 30
abbrev N_refusal_to_move : List Str := ["state", "b", "n"]
abbrev P_refusal_to_move : List Str := ["state", "b", "n"]
abbrev s_persons_beside : Stmt := top 31
abbrev N_persons_beside : List Str := ["state", "boat"]
abbrev P_persons_beside : List Str := ["state", "boat"]
abbrev s_move_in : Stmt := top 32
abbrev N_move_in : List Str := ["state", "boat", "n"]
abbrev P_move_in : List Str := ["state", "boat", "n"]
abbrev s_Changes_init : Stmt := inClass (top 34) 0
abbrev N_Changes_init : List Str := ["self"]
abbrev P_Changes_init : List Str := ["self"]
abbrev s_Changes_keep : Stmt := inClass (top 34) 1
abbrev N_Changes_keep : List Str := ["self", "state"]
abbrev P_Changes_keep : List Str := ["self", "state"]
abbrev s_Changes_take_back : Stmt := inClass (top 34) 2
abbrev N_Changes_take_back : List Str := ["self", "state"]
abbrev P_Changes_take_back : List Str := ["self", "state"]
abbrev s_Changes_do_again : Stmt := inClass (top 34) 3
abbrev N_Changes_do_again : List Str := ["self", "state"]
abbrev P_Changes_do_again : List Str := ["self", "state"]
abbrev s_leaves_shore_in : Stmt := top 36
abbrev N_leaves_shore_in : List Str := ["boat"]
abbrev P_leaves_shore_in : List Str := ["boat"]
abbrev s_times_at_ship : Stmt := top 37
abbrev N_times_at_ship : List Str := ["boat", "minutes", "first"]
abbrev P_times_at_ship : List Str := ["boat", "minutes"]
abbrev s_brought_within : Stmt := top 38
abbrev N_brought_within : List Str := ["state", "minutes", "boat"]
abbrev P_brought_within : List Str := ["state", "minutes"]
abbrev s_persons_away : Stmt := top 39
abbrev N_persons_away : List Str := ["state", "boat"]
abbrev P_persons_away : List Str := ["state"]
abbrev s_somebody_goes_ashore : Stmt := top 40
abbrev N_somebody_goes_ashore : List Str := ["state", "boat"]
abbrev P_somebody_goes_ashore : List Str := ["state"]
abbrev s_last_one_coming : Stmt := top 41
abbrev N_last_one_coming : List Str := ["state", "boat"]
abbrev P_last_one_coming : List Str := ["state"]
abbrev s_least_minutes : Stmt := top 42
abbrev N_least_minutes : List Str := ["state", "gone", "low", "high", "middle"]
abbrev P_least_minutes : List Str := ["state"]
abbrev s_bs_home : Stmt := top 44
abbrev N_bs_home : List Str := ["state", "least"]
abbrev P_bs_home : List Str := ["state"]
abbrev s_bs_slack : Stmt := top 45
abbrev N_bs_slack : List Str := ["state", "least", "slack"]
abbrev P_bs_slack : List Str := ["state"]
abbrev s_bs_brought : Stmt := top 46
abbrev N_bs_brought : List Str := ["state", "t"]
abbrev P_bs_brought : List Str := ["state", "t"]
abbrev s_bs_fewest : Stmt := top 47
abbrev N_bs_fewest : List Str := ["state", "n", "seats", "most", "boat"]
abbrev P_bs_fewest : List Str := ["state", "n"]
abbrev s_least_or_refusal : Stmt := top 48
abbrev N_least_or_refusal : List Str := ["state", "least"]
abbrev P_least_or_refusal : List Str := ["state"]
abbrev s_one_if : Stmt := top 50
abbrev N_one_if : List Str := ["holds"]
abbrev P_one_if : List Str := ["holds"]
abbrev s_as_bits : Stmt := top 51
abbrev N_as_bits : List Str := ["boats", "b"]
abbrev P_as_bits : List Str := ["boats"]
abbrev s_bs_next : Stmt := top 53
abbrev N_bs_next : List Str := ["state", "coming", "soonest", "first", "b", "boat"]
abbrev P_bs_next : List Str := ["state"]
abbrev s_bs_where : Stmt := top 54
abbrev N_bs_where : List Str := ["state", "b", "boat"]
abbrev P_bs_where : List Str := ["state", "b"]
abbrev s_bs_look : Stmt := top 55
abbrev N_bs_look : List Str := ["state", "b", "boat"]
abbrev P_bs_look : List Str := ["state", "b"]
abbrev s_bs_all : Stmt := top 57
abbrev N_bs_all : List Str := ["state", "all_on_ship"]
abbrev P_bs_all : List Str := ["state"]
abbrev s_bs_may : Stmt := top 58
abbrev N_bs_may : List Str := ["state", "able", "b", "boat"]
abbrev P_bs_may : List Str := ["state"]
abbrev s_bs_sums : Stmt := top 59
abbrev N_bs_sums : List Str := ["state"]
abbrev P_bs_sums : List Str := ["state"]
abbrev s_bs_state : Stmt := top 60
abbrev N_bs_state : List Str := ["state", "changes"]
abbrev P_bs_state : List Str := ["state", "changes"]
abbrev s_bs_ticket : Stmt := top 62
abbrev N_bs_ticket : List Str := ["state", "n", "ticket"]
abbrev P_bs_ticket : List Str := ["state", "n"]
abbrev s_bs_call : Stmt := top 63
abbrev N_bs_call : List Str := ["state", "b", "boat", "called", "persons"]
abbrev P_bs_call : List Str := ["state", "b"]
abbrev s_bs_drop : Stmt := top 64
abbrev N_bs_drop : List Str := ["state", "k", "dropped", "ticket", "persons", "group"]
abbrev P_bs_drop : List Str := ["state", "k"]
abbrev s_bs_place : Stmt := top 65
abbrev N_bs_place : List Str := ["state", "k", "tickets", "before", "ticket", "persons"]
abbrev P_bs_place : List Str := ["state", "k"]
abbrev s_bs_first : Stmt := top 66
abbrev N_bs_first : List Str := ["state", "first"]
abbrev P_bs_first : List Str := ["state"]
abbrev s_bs_fits : Stmt := top 67
abbrev N_bs_fits : List Str := ["state", "b", "left", "called"]
abbrev P_bs_fits : List Str := ["state", "b"]
abbrev s_groups_that_fit : Stmt := top 68
abbrev N_groups_that_fit : List Str := ["groups", "seats", "called"]
abbrev P_groups_that_fit : List Str := ["groups", "seats"]
abbrev s_persons_of_first : Stmt := top 69
abbrev N_persons_of_first : List Str := ["groups", "called", "ticket", "persons"]
abbrev P_persons_of_first : List Str := ["groups", "called"]
abbrev s_bs_minutes : Stmt := top 71
abbrev N_bs_minutes : List Str := ["state", "n", "boat", "lying", "b"]
abbrev P_bs_minutes : List Str := ["state", "n"]
abbrev s_bs_swell : Stmt := top 72
abbrev N_bs_swell : List Str := ["state", "v", "was"]
abbrev P_bs_swell : List Str := ["state", "v"]
abbrev s_bs_sail : Stmt := top 73
abbrev N_bs_sail : List Str := ["state", "t", "was"]
abbrev P_bs_sail : List Str := ["state", "t"]
abbrev s_answers : Stmt := top 102
abbrev N_answers : List Str := ["calls", "ship", "told", "at", "number", "behind", "answer"]
abbrev P_answers : List Str := ["calls"]
abbrev s_Ship_init : Stmt := inClass (top 103) 0
abbrev N_Ship_init : List Str := ["self"]
abbrev P_Ship_init : List Str := ["self"]
abbrev s_Ship_answer : Stmt := inClass (top 103) 1
abbrev N_Ship_answer : List Str := ["self", "number", "given"]
abbrev P_Ship_answer : List Str := ["self", "number", "given"]
abbrev s_Ship_begin : Stmt := inClass (top 103) 2
abbrev N_Ship_begin : List Str := ["self", "persons", "sail"]
abbrev P_Ship_begin : List Str := ["self", "persons", "sail"]
abbrev s_Ship_change : Stmt := inClass (top 103) 3
abbrev N_Ship_change : List Str := ["self", "number", "given", "after", "answer"]
abbrev P_Ship_change : List Str := ["self", "number", "given"]
abbrev s_Ship_take_back : Stmt := inClass (top 103) 4
abbrev N_Ship_take_back : List Str := ["self"]
abbrev P_Ship_take_back : List Str := ["self"]
abbrev s_Ship_do_again : Stmt := inClass (top 103) 5
abbrev N_Ship_do_again : List Str := ["self"]
abbrev P_Ship_do_again : List Str := ["self"]
abbrev s_changed : Stmt := top 104
abbrev N_changed : List Str := ["state", "number", "given"]
abbrev P_changed : List Str := ["state", "number", "given"]
abbrev s_asked : Stmt := top 105
abbrev N_asked : List Str := ["state", "number", "given"]
abbrev P_asked : List Str := ["state", "number", "given"]
theorem sc_Boat_init : FnScope N_Boat_init P_Boat_init (defScope s_Boat_init) := ⟨rfl, rfl, rfl, by decide +kernel, rfl, by decide +kernel, by decide +kernel⟩
theorem sc_Boat_is_on_its_way : FnScope N_Boat_is_on_its_way P_Boat_is_on_its_way (defScope s_Boat_is_on_its_way) := ⟨rfl, rfl, rfl, by decide +kernel, rfl, by decide +kernel, by decide +kernel⟩
theorem sc_Boat_seats_left : FnScope N_Boat_seats_left P_Boat_seats_left (defScope s_Boat_seats_left) := ⟨rfl, rfl, rfl, by decide +kernel, rfl, by decide +kernel, by decide +kernel⟩
theorem sc_Boat_twin : FnScope N_Boat_twin P_Boat_twin (defScope s_Boat_twin) := ⟨rfl, rfl, rfl, by decide +kernel, rfl, by decide +kernel, by decide +kernel⟩
theorem sc_State_init : FnScope N_State_init P_State_init (defScope s_State_init) := ⟨rfl, rfl, rfl, by decide +kernel, rfl, by decide +kernel, by decide +kernel⟩
theorem sc_State_has_boat : FnScope N_State_has_boat P_State_has_boat (defScope s_State_has_boat) := ⟨rfl, rfl, rfl, by decide +kernel, rfl, by decide +kernel, by decide +kernel⟩
theorem sc_State_may_go : FnScope N_State_may_go P_State_may_go (defScope s_State_may_go) := ⟨rfl, rfl, rfl, by decide +kernel, rfl, by decide +kernel, by decide +kernel⟩
theorem sc_State_waiting : FnScope N_State_waiting P_State_waiting (defScope s_State_waiting) := ⟨rfl, rfl, rfl, by decide +kernel, rfl, by decide +kernel, by decide +kernel⟩
theorem sc_State_in_boats : FnScope N_State_in_boats P_State_in_boats (defScope s_State_in_boats) := ⟨rfl, rfl, rfl, by decide +kernel, rfl, by decide +kernel, by decide +kernel⟩
theorem sc_State_free_on_ship : FnScope N_State_free_on_ship P_State_free_on_ship (defScope s_State_free_on_ship) := ⟨rfl, rfl, rfl, by decide +kernel, rfl, by decide +kernel, by decide +kernel⟩
theorem sc_State_twin : FnScope N_State_twin P_State_twin (defScope s_State_twin) := ⟨rfl, rfl, rfl, by decide +kernel, rfl, by decide +kernel, by decide +kernel⟩
theorem sc_bs_boat : FnScope N_bs_boat P_bs_boat (defScope s_bs_boat) := ⟨rfl, rfl, rfl, by decide +kernel, rfl, by decide +kernel, by decide +kernel⟩
theorem sc_bs_into : FnScope N_bs_into P_bs_into (defScope s_bs_into) := ⟨rfl, rfl, rfl, by decide +kernel, rfl, by decide +kernel, by decide +kernel⟩
theorem sc_bs_out : FnScope N_bs_out P_bs_out (defScope s_bs_out) := ⟨rfl, rfl, rfl, by decide +kernel, rfl, by decide +kernel, by decide +kernel⟩
theorem sc_bs_go : FnScope N_bs_go P_bs_go (defScope s_bs_go) := ⟨rfl, rfl, rfl, by decide +kernel, rfl, by decide +kernel, by decide +kernel⟩
theorem sc_refusal_to_move : FnScope N_refusal_to_move P_refusal_to_move (defScope s_refusal_to_move) := ⟨rfl, rfl, rfl, by decide +kernel, rfl, by decide +kernel, by decide +kernel⟩
theorem sc_persons_beside : FnScope N_persons_beside P_persons_beside (defScope s_persons_beside) := ⟨rfl, rfl, rfl, by decide +kernel, rfl, by decide +kernel, by decide +kernel⟩
theorem sc_move_in : FnScope N_move_in P_move_in (defScope s_move_in) := ⟨rfl, rfl, rfl, by decide +kernel, rfl, by decide +kernel, by decide +kernel⟩
theorem sc_Changes_init : FnScope N_Changes_init P_Changes_init (defScope s_Changes_init) := ⟨rfl, rfl, rfl, by decide +kernel, rfl, by decide +kernel, by decide +kernel⟩
theorem sc_Changes_keep : FnScope N_Changes_keep P_Changes_keep (defScope s_Changes_keep) := ⟨rfl, rfl, rfl, by decide +kernel, rfl, by decide +kernel, by decide +kernel⟩
theorem sc_Changes_take_back : FnScope N_Changes_take_back P_Changes_take_back (defScope s_Changes_take_back) := ⟨rfl, rfl, rfl, by decide +kernel, rfl, by decide +kernel, by decide +kernel⟩
theorem sc_Changes_do_again : FnScope N_Changes_do_again P_Changes_do_again (defScope s_Changes_do_again) := ⟨rfl, rfl, rfl, by decide +kernel, rfl, by decide +kernel, by decide +kernel⟩
theorem sc_leaves_shore_in : FnScope N_leaves_shore_in P_leaves_shore_in (defScope s_leaves_shore_in) := ⟨rfl, rfl, rfl, by decide +kernel, rfl, by decide +kernel, by decide +kernel⟩
theorem sc_times_at_ship : FnScope N_times_at_ship P_times_at_ship (defScope s_times_at_ship) := ⟨rfl, rfl, rfl, by decide +kernel, rfl, by decide +kernel, by decide +kernel⟩
theorem sc_brought_within : FnScope N_brought_within P_brought_within (defScope s_brought_within) := ⟨rfl, rfl, rfl, by decide +kernel, rfl, by decide +kernel, by decide +kernel⟩
theorem sc_persons_away : FnScope N_persons_away P_persons_away (defScope s_persons_away) := ⟨rfl, rfl, rfl, by decide +kernel, rfl, by decide +kernel, by decide +kernel⟩
theorem sc_somebody_goes_ashore : FnScope N_somebody_goes_ashore P_somebody_goes_ashore (defScope s_somebody_goes_ashore) := ⟨rfl, rfl, rfl, by decide +kernel, rfl, by decide +kernel, by decide +kernel⟩
theorem sc_last_one_coming : FnScope N_last_one_coming P_last_one_coming (defScope s_last_one_coming) := ⟨rfl, rfl, rfl, by decide +kernel, rfl, by decide +kernel, by decide +kernel⟩
theorem sc_least_minutes : FnScope N_least_minutes P_least_minutes (defScope s_least_minutes) := ⟨rfl, rfl, rfl, by decide +kernel, rfl, by decide +kernel, by decide +kernel⟩
theorem sc_bs_home : FnScope N_bs_home P_bs_home (defScope s_bs_home) := ⟨rfl, rfl, rfl, by decide +kernel, rfl, by decide +kernel, by decide +kernel⟩
theorem sc_bs_slack : FnScope N_bs_slack P_bs_slack (defScope s_bs_slack) := ⟨rfl, rfl, rfl, by decide +kernel, rfl, by decide +kernel, by decide +kernel⟩
theorem sc_bs_brought : FnScope N_bs_brought P_bs_brought (defScope s_bs_brought) := ⟨rfl, rfl, rfl, by decide +kernel, rfl, by decide +kernel, by decide +kernel⟩
theorem sc_bs_fewest : FnScope N_bs_fewest P_bs_fewest (defScope s_bs_fewest) := ⟨rfl, rfl, rfl, by decide +kernel, rfl, by decide +kernel, by decide +kernel⟩
theorem sc_least_or_refusal : FnScope N_least_or_refusal P_least_or_refusal (defScope s_least_or_refusal) := ⟨rfl, rfl, rfl, by decide +kernel, rfl, by decide +kernel, by decide +kernel⟩
theorem sc_one_if : FnScope N_one_if P_one_if (defScope s_one_if) := ⟨rfl, rfl, rfl, by decide +kernel, rfl, by decide +kernel, by decide +kernel⟩
theorem sc_as_bits : FnScope N_as_bits P_as_bits (defScope s_as_bits) := ⟨rfl, rfl, rfl, by decide +kernel, rfl, by decide +kernel, by decide +kernel⟩
theorem sc_bs_next : FnScope N_bs_next P_bs_next (defScope s_bs_next) := ⟨rfl, rfl, rfl, by decide +kernel, rfl, by decide +kernel, by decide +kernel⟩
theorem sc_bs_where : FnScope N_bs_where P_bs_where (defScope s_bs_where) := ⟨rfl, rfl, rfl, by decide +kernel, rfl, by decide +kernel, by decide +kernel⟩
theorem sc_bs_look : FnScope N_bs_look P_bs_look (defScope s_bs_look) := ⟨rfl, rfl, rfl, by decide +kernel, rfl, by decide +kernel, by decide +kernel⟩
theorem sc_bs_all : FnScope N_bs_all P_bs_all (defScope s_bs_all) := ⟨rfl, rfl, rfl, by decide +kernel, rfl, by decide +kernel, by decide +kernel⟩
theorem sc_bs_may : FnScope N_bs_may P_bs_may (defScope s_bs_may) := ⟨rfl, rfl, rfl, by decide +kernel, rfl, by decide +kernel, by decide +kernel⟩
theorem sc_bs_sums : FnScope N_bs_sums P_bs_sums (defScope s_bs_sums) := ⟨rfl, rfl, rfl, by decide +kernel, rfl, by decide +kernel, by decide +kernel⟩
theorem sc_bs_state : FnScope N_bs_state P_bs_state (defScope s_bs_state) := ⟨rfl, rfl, rfl, by decide +kernel, rfl, by decide +kernel, by decide +kernel⟩
theorem sc_bs_ticket : FnScope N_bs_ticket P_bs_ticket (defScope s_bs_ticket) := ⟨rfl, rfl, rfl, by decide +kernel, rfl, by decide +kernel, by decide +kernel⟩
theorem sc_bs_call : FnScope N_bs_call P_bs_call (defScope s_bs_call) := ⟨rfl, rfl, rfl, by decide +kernel, rfl, by decide +kernel, by decide +kernel⟩
theorem sc_bs_drop : FnScope N_bs_drop P_bs_drop (defScope s_bs_drop) := ⟨rfl, rfl, rfl, by decide +kernel, rfl, by decide +kernel, by decide +kernel⟩
theorem sc_bs_place : FnScope N_bs_place P_bs_place (defScope s_bs_place) := ⟨rfl, rfl, rfl, by decide +kernel, rfl, by decide +kernel, by decide +kernel⟩
theorem sc_bs_first : FnScope N_bs_first P_bs_first (defScope s_bs_first) := ⟨rfl, rfl, rfl, by decide +kernel, rfl, by decide +kernel, by decide +kernel⟩
theorem sc_bs_fits : FnScope N_bs_fits P_bs_fits (defScope s_bs_fits) := ⟨rfl, rfl, rfl, by decide +kernel, rfl, by decide +kernel, by decide +kernel⟩
theorem sc_groups_that_fit : FnScope N_groups_that_fit P_groups_that_fit (defScope s_groups_that_fit) := ⟨rfl, rfl, rfl, by decide +kernel, rfl, by decide +kernel, by decide +kernel⟩
theorem sc_persons_of_first : FnScope N_persons_of_first P_persons_of_first (defScope s_persons_of_first) := ⟨rfl, rfl, rfl, by decide +kernel, rfl, by decide +kernel, by decide +kernel⟩
theorem sc_bs_minutes : FnScope N_bs_minutes P_bs_minutes (defScope s_bs_minutes) := ⟨rfl, rfl, rfl, by decide +kernel, rfl, by decide +kernel, by decide +kernel⟩
theorem sc_bs_swell : FnScope N_bs_swell P_bs_swell (defScope s_bs_swell) := ⟨rfl, rfl, rfl, by decide +kernel, rfl, by decide +kernel, by decide +kernel⟩
theorem sc_bs_sail : FnScope N_bs_sail P_bs_sail (defScope s_bs_sail) := ⟨rfl, rfl, rfl, by decide +kernel, rfl, by decide +kernel, by decide +kernel⟩
theorem sc_answers : FnScope N_answers P_answers (defScope s_answers) := ⟨rfl, rfl, rfl, by decide +kernel, rfl, by decide +kernel, by decide +kernel⟩
theorem sc_Ship_init : FnScope N_Ship_init P_Ship_init (defScope s_Ship_init) := ⟨rfl, rfl, rfl, by decide +kernel, rfl, by decide +kernel, by decide +kernel⟩
theorem sc_Ship_answer : FnScope N_Ship_answer P_Ship_answer (defScope s_Ship_answer) := ⟨rfl, rfl, rfl, by decide +kernel, rfl, by decide +kernel, by decide +kernel⟩
theorem sc_Ship_begin : FnScope N_Ship_begin P_Ship_begin (defScope s_Ship_begin) := ⟨rfl, rfl, rfl, by decide +kernel, rfl, by decide +kernel, by decide +kernel⟩
theorem sc_Ship_change : FnScope N_Ship_change P_Ship_change (defScope s_Ship_change) := ⟨rfl, rfl, rfl, by decide +kernel, rfl, by decide +kernel, by decide +kernel⟩
theorem sc_Ship_take_back : FnScope N_Ship_take_back P_Ship_take_back (defScope s_Ship_take_back) := ⟨rfl, rfl, rfl, by decide +kernel, rfl, by decide +kernel, by decide +kernel⟩
theorem sc_Ship_do_again : FnScope N_Ship_do_again P_Ship_do_again (defScope s_Ship_do_again) := ⟨rfl, rfl, rfl, by decide +kernel, rfl, by decide +kernel, by decide +kernel⟩
theorem sc_changed : FnScope N_changed P_changed (defScope s_changed) := ⟨rfl, rfl, rfl, by decide +kernel, rfl, by decide +kernel, by decide +kernel⟩
theorem sc_asked : FnScope N_asked P_asked (defScope s_asked) := ⟨rfl, rfl, rfl, by decide +kernel, rfl, by decide +kernel, by decide +kernel⟩
theorem ln1 : ∀ {l : List Value}, l.length = 1 → ∃ a, l = [a]
  | [a], _ => ⟨a, rfl⟩
theorem ln2 : ∀ {l : List Value}, l.length = 2 → ∃ a b, l = [a, b]
  | [a, b], _ => ⟨a, b, rfl⟩
theorem ln3 : ∀ {l : List Value}, l.length = 3 → ∃ a b c, l = [a, b, c]
  | [a, b, c], _ => ⟨a, b, c, rfl⟩
theorem ln4 : ∀ {l : List Value}, l.length = 4 → ∃ a b c d, l = [a, b, c, d]
  | [a, b, c, d], _ => ⟨a, b, c, d, rfl⟩
set_option genInjectivity false
set_option genSizeOf false
structure Ad where
  c_Boat : Addr
  c_State : Addr
  c_Changes : Addr
  c_Ship : Addr
  f_Boat_init : Addr
  d_Boat_init : FuncData
  f_Boat_is_on_its_way : Addr
  d_Boat_is_on_its_way : FuncData
  f_Boat_seats_left : Addr
  d_Boat_seats_left : FuncData
  f_Boat_twin : Addr
  d_Boat_twin : FuncData
  f_State_init : Addr
  d_State_init : FuncData
  f_State_has_boat : Addr
  d_State_has_boat : FuncData
  f_State_may_go : Addr
  d_State_may_go : FuncData
  f_State_waiting : Addr
  d_State_waiting : FuncData
  f_State_in_boats : Addr
  d_State_in_boats : FuncData
  f_State_free_on_ship : Addr
  d_State_free_on_ship : FuncData
  f_State_twin : Addr
  d_State_twin : FuncData
  f_bs_boat : Addr
  d_bs_boat : FuncData
  f_bs_into : Addr
  d_bs_into : FuncData
  f_bs_out : Addr
  d_bs_out : FuncData
  f_bs_go : Addr
  d_bs_go : FuncData
  f_refusal_to_move : Addr
  d_refusal_to_move : FuncData
  f_persons_beside : Addr
  d_persons_beside : FuncData
  f_move_in : Addr
  d_move_in : FuncData
  f_Changes_init : Addr
  d_Changes_init : FuncData
  f_Changes_keep : Addr
  d_Changes_keep : FuncData
  f_Changes_take_back : Addr
  d_Changes_take_back : FuncData
  f_Changes_do_again : Addr
  d_Changes_do_again : FuncData
  f_leaves_shore_in : Addr
  d_leaves_shore_in : FuncData
  f_times_at_ship : Addr
  d_times_at_ship : FuncData
  f_brought_within : Addr
  d_brought_within : FuncData
  f_persons_away : Addr
  d_persons_away : FuncData
  f_somebody_goes_ashore : Addr
  d_somebody_goes_ashore : FuncData
  f_last_one_coming : Addr
  d_last_one_coming : FuncData
  f_least_minutes : Addr
  d_least_minutes : FuncData
  f_bs_home : Addr
  d_bs_home : FuncData
  f_bs_slack : Addr
  d_bs_slack : FuncData
  f_bs_brought : Addr
  d_bs_brought : FuncData
  f_bs_fewest : Addr
  d_bs_fewest : FuncData
  f_least_or_refusal : Addr
  d_least_or_refusal : FuncData
  f_one_if : Addr
  d_one_if : FuncData
  f_as_bits : Addr
  d_as_bits : FuncData
  f_bs_next : Addr
  d_bs_next : FuncData
  f_bs_where : Addr
  d_bs_where : FuncData
  f_bs_look : Addr
  d_bs_look : FuncData
  f_bs_all : Addr
  d_bs_all : FuncData
  f_bs_may : Addr
  d_bs_may : FuncData
  f_bs_sums : Addr
  d_bs_sums : FuncData
  f_bs_state : Addr
  d_bs_state : FuncData
  f_bs_ticket : Addr
  d_bs_ticket : FuncData
  f_bs_call : Addr
  d_bs_call : FuncData
  f_bs_drop : Addr
  d_bs_drop : FuncData
  f_bs_place : Addr
  d_bs_place : FuncData
  f_bs_first : Addr
  d_bs_first : FuncData
  f_bs_fits : Addr
  d_bs_fits : FuncData
  f_groups_that_fit : Addr
  d_groups_that_fit : FuncData
  f_persons_of_first : Addr
  d_persons_of_first : FuncData
  f_bs_minutes : Addr
  d_bs_minutes : FuncData
  f_bs_swell : Addr
  d_bs_swell : FuncData
  f_bs_sail : Addr
  d_bs_sail : FuncData
  f_answers : Addr
  d_answers : FuncData
  f_Ship_init : Addr
  d_Ship_init : FuncData
  f_Ship_answer : Addr
  d_Ship_answer : FuncData
  f_Ship_begin : Addr
  d_Ship_begin : FuncData
  f_Ship_change : Addr
  d_Ship_change : FuncData
  f_Ship_take_back : Addr
  d_Ship_take_back : FuncData
  f_Ship_do_again : Addr
  d_Ship_do_again : FuncData
  f_changed : Addr
  d_changed : FuncData
  f_asked : Addr
  d_asked : FuncData
  a_NUMBERS_BEHIND : Addr
structure Txt (K : PySem.W.Frag) (mg : Str → Option Value) (A : Ad) : Prop where
  cl_Boat : Cls K A.c_Boat
  g_Boat : mg "Boat" = some (.ref A.c_Boat)
  mk_Boat : Mk K A.c_Boat A.f_Boat_init
  n_Boat_seats : NoAttr K A.c_Boat "seats"
  n_Boat_way : NoAttr K A.c_Boat "way"
  n_Boat_most_swell : NoAttr K A.c_Boat "most_swell"
  n_Boat_inside : NoAttr K A.c_Boat "inside"
  n_Boat_to_shore : NoAttr K A.c_Boat "to_shore"
  n_Boat_minutes_left : NoAttr K A.c_Boat "minutes_left"
  cl_State : Cls K A.c_State
  g_State : mg "State" = some (.ref A.c_State)
  mk_State : Mk K A.c_State A.f_State_init
  n_State_on_ship : NoAttr K A.c_State "on_ship"
  n_State_on_shore : NoAttr K A.c_State "on_shore"
  n_State_sail : NoAttr K A.c_State "sail"
  n_State_minute : NoAttr K A.c_State "minute"
  n_State_swell : NoAttr K A.c_State "swell"
  n_State_boats : NoAttr K A.c_State "boats"
  n_State_groups : NoAttr K A.c_State "groups"
  n_State_times_gone : NoAttr K A.c_State "times_gone"
  n_State_tickets_given : NoAttr K A.c_State "tickets_given"
  cl_Changes : Cls K A.c_Changes
  g_Changes : mg "Changes" = some (.ref A.c_Changes)
  mk_Changes : Mk K A.c_Changes A.f_Changes_init
  n_Changes_before : NoAttr K A.c_Changes "before"
  n_Changes_undone : NoAttr K A.c_Changes "undone"
  cl_Ship : Cls K A.c_Ship
  g_Ship : mg "Ship" = some (.ref A.c_Ship)
  mk_Ship : Mk K A.c_Ship A.f_Ship_init
  n_Ship_state : NoAttr K A.c_Ship "state"
  n_Ship_changes : NoAttr K A.c_Ship "changes"
  F_Boat_init : Fun K "__init__" "Boat.__init__" s_Boat_init A.f_Boat_init A.d_Boat_init
  F_Boat_is_on_its_way : Fun K "is_on_its_way" "Boat.is_on_its_way" s_Boat_is_on_its_way A.f_Boat_is_on_its_way A.d_Boat_is_on_its_way
  m_Boat_is_on_its_way : Meth K A.c_Boat "is_on_its_way" A.f_Boat_is_on_its_way
  F_Boat_seats_left : Fun K "seats_left" "Boat.seats_left" s_Boat_seats_left A.f_Boat_seats_left A.d_Boat_seats_left
  m_Boat_seats_left : Meth K A.c_Boat "seats_left" A.f_Boat_seats_left
  F_Boat_twin : Fun K "twin" "Boat.twin" s_Boat_twin A.f_Boat_twin A.d_Boat_twin
  m_Boat_twin : Meth K A.c_Boat "twin" A.f_Boat_twin
  F_State_init : Fun K "__init__" "State.__init__" s_State_init A.f_State_init A.d_State_init
  F_State_has_boat : Fun K "has_boat" "State.has_boat" s_State_has_boat A.f_State_has_boat A.d_State_has_boat
  m_State_has_boat : Meth K A.c_State "has_boat" A.f_State_has_boat
  F_State_may_go : Fun K "may_go" "State.may_go" s_State_may_go A.f_State_may_go A.d_State_may_go
  m_State_may_go : Meth K A.c_State "may_go" A.f_State_may_go
  F_State_waiting : Fun K "waiting" "State.waiting" s_State_waiting A.f_State_waiting A.d_State_waiting
  m_State_waiting : Meth K A.c_State "waiting" A.f_State_waiting
  F_State_in_boats : Fun K "in_boats" "State.in_boats" s_State_in_boats A.f_State_in_boats A.d_State_in_boats
  m_State_in_boats : Meth K A.c_State "in_boats" A.f_State_in_boats
  F_State_free_on_ship : Fun K "free_on_ship" "State.free_on_ship" s_State_free_on_ship A.f_State_free_on_ship A.d_State_free_on_ship
  m_State_free_on_ship : Meth K A.c_State "free_on_ship" A.f_State_free_on_ship
  F_State_twin : Fun K "twin" "State.twin" s_State_twin A.f_State_twin A.d_State_twin
  m_State_twin : Meth K A.c_State "twin" A.f_State_twin
  F_bs_boat : Fun K "bs_boat" "bs_boat" s_bs_boat A.f_bs_boat A.d_bs_boat
  g_bs_boat : mg "bs_boat" = some (.ref A.f_bs_boat)
  F_bs_into : Fun K "bs_into" "bs_into" s_bs_into A.f_bs_into A.d_bs_into
  g_bs_into : mg "bs_into" = some (.ref A.f_bs_into)
  F_bs_out : Fun K "bs_out" "bs_out" s_bs_out A.f_bs_out A.d_bs_out
  g_bs_out : mg "bs_out" = some (.ref A.f_bs_out)
  F_bs_go : Fun K "bs_go" "bs_go" s_bs_go A.f_bs_go A.d_bs_go
  g_bs_go : mg "bs_go" = some (.ref A.f_bs_go)
  F_refusal_to_move : Fun K "refusal_to_move" "refusal_to_move" s_refusal_to_move A.f_refusal_to_move A.d_refusal_to_move
  g_refusal_to_move : mg "refusal_to_move" = some (.ref A.f_refusal_to_move)
  F_persons_beside : Fun K "persons_beside" "persons_beside" s_persons_beside A.f_persons_beside A.d_persons_beside
  g_persons_beside : mg "persons_beside" = some (.ref A.f_persons_beside)
  F_move_in : Fun K "move_in" "move_in" s_move_in A.f_move_in A.d_move_in
  g_move_in : mg "move_in" = some (.ref A.f_move_in)
  F_Changes_init : Fun K "__init__" "Changes.__init__" s_Changes_init A.f_Changes_init A.d_Changes_init
  F_Changes_keep : Fun K "keep" "Changes.keep" s_Changes_keep A.f_Changes_keep A.d_Changes_keep
  m_Changes_keep : Meth K A.c_Changes "keep" A.f_Changes_keep
  F_Changes_take_back : Fun K "take_back" "Changes.take_back" s_Changes_take_back A.f_Changes_take_back A.d_Changes_take_back
  m_Changes_take_back : Meth K A.c_Changes "take_back" A.f_Changes_take_back
  F_Changes_do_again : Fun K "do_again" "Changes.do_again" s_Changes_do_again A.f_Changes_do_again A.d_Changes_do_again
  m_Changes_do_again : Meth K A.c_Changes "do_again" A.f_Changes_do_again
  F_leaves_shore_in : Fun K "leaves_shore_in" "leaves_shore_in" s_leaves_shore_in A.f_leaves_shore_in A.d_leaves_shore_in
  g_leaves_shore_in : mg "leaves_shore_in" = some (.ref A.f_leaves_shore_in)
  F_times_at_ship : Fun K "times_at_ship" "times_at_ship" s_times_at_ship A.f_times_at_ship A.d_times_at_ship
  g_times_at_ship : mg "times_at_ship" = some (.ref A.f_times_at_ship)
  F_brought_within : Fun K "brought_within" "brought_within" s_brought_within A.f_brought_within A.d_brought_within
  g_brought_within : mg "brought_within" = some (.ref A.f_brought_within)
  F_persons_away : Fun K "persons_away" "persons_away" s_persons_away A.f_persons_away A.d_persons_away
  g_persons_away : mg "persons_away" = some (.ref A.f_persons_away)
  F_somebody_goes_ashore : Fun K "somebody_goes_ashore" "somebody_goes_ashore" s_somebody_goes_ashore A.f_somebody_goes_ashore A.d_somebody_goes_ashore
  g_somebody_goes_ashore : mg "somebody_goes_ashore" = some (.ref A.f_somebody_goes_ashore)
  F_last_one_coming : Fun K "last_one_coming" "last_one_coming" s_last_one_coming A.f_last_one_coming A.d_last_one_coming
  g_last_one_coming : mg "last_one_coming" = some (.ref A.f_last_one_coming)
  F_least_minutes : Fun K "least_minutes" "least_minutes" s_least_minutes A.f_least_minutes A.d_least_minutes
  g_least_minutes : mg "least_minutes" = some (.ref A.f_least_minutes)
  F_bs_home : Fun K "bs_home" "bs_home" s_bs_home A.f_bs_home A.d_bs_home
  g_bs_home : mg "bs_home" = some (.ref A.f_bs_home)
  F_bs_slack : Fun K "bs_slack" "bs_slack" s_bs_slack A.f_bs_slack A.d_bs_slack
  g_bs_slack : mg "bs_slack" = some (.ref A.f_bs_slack)
  F_bs_brought : Fun K "bs_brought" "bs_brought" s_bs_brought A.f_bs_brought A.d_bs_brought
  g_bs_brought : mg "bs_brought" = some (.ref A.f_bs_brought)
  F_bs_fewest : Fun K "bs_fewest" "bs_fewest" s_bs_fewest A.f_bs_fewest A.d_bs_fewest
  g_bs_fewest : mg "bs_fewest" = some (.ref A.f_bs_fewest)
  F_least_or_refusal : Fun K "least_or_refusal" "least_or_refusal" s_least_or_refusal A.f_least_or_refusal A.d_least_or_refusal
  g_least_or_refusal : mg "least_or_refusal" = some (.ref A.f_least_or_refusal)
  F_one_if : Fun K "one_if" "one_if" s_one_if A.f_one_if A.d_one_if
  g_one_if : mg "one_if" = some (.ref A.f_one_if)
  F_as_bits : Fun K "as_bits" "as_bits" s_as_bits A.f_as_bits A.d_as_bits
  g_as_bits : mg "as_bits" = some (.ref A.f_as_bits)
  F_bs_next : Fun K "bs_next" "bs_next" s_bs_next A.f_bs_next A.d_bs_next
  g_bs_next : mg "bs_next" = some (.ref A.f_bs_next)
  F_bs_where : Fun K "bs_where" "bs_where" s_bs_where A.f_bs_where A.d_bs_where
  g_bs_where : mg "bs_where" = some (.ref A.f_bs_where)
  F_bs_look : Fun K "bs_look" "bs_look" s_bs_look A.f_bs_look A.d_bs_look
  g_bs_look : mg "bs_look" = some (.ref A.f_bs_look)
  F_bs_all : Fun K "bs_all" "bs_all" s_bs_all A.f_bs_all A.d_bs_all
  g_bs_all : mg "bs_all" = some (.ref A.f_bs_all)
  F_bs_may : Fun K "bs_may" "bs_may" s_bs_may A.f_bs_may A.d_bs_may
  g_bs_may : mg "bs_may" = some (.ref A.f_bs_may)
  F_bs_sums : Fun K "bs_sums" "bs_sums" s_bs_sums A.f_bs_sums A.d_bs_sums
  g_bs_sums : mg "bs_sums" = some (.ref A.f_bs_sums)
  F_bs_state : Fun K "bs_state" "bs_state" s_bs_state A.f_bs_state A.d_bs_state
  g_bs_state : mg "bs_state" = some (.ref A.f_bs_state)
  F_bs_ticket : Fun K "bs_ticket" "bs_ticket" s_bs_ticket A.f_bs_ticket A.d_bs_ticket
  g_bs_ticket : mg "bs_ticket" = some (.ref A.f_bs_ticket)
  F_bs_call : Fun K "bs_call" "bs_call" s_bs_call A.f_bs_call A.d_bs_call
  g_bs_call : mg "bs_call" = some (.ref A.f_bs_call)
  F_bs_drop : Fun K "bs_drop" "bs_drop" s_bs_drop A.f_bs_drop A.d_bs_drop
  g_bs_drop : mg "bs_drop" = some (.ref A.f_bs_drop)
  F_bs_place : Fun K "bs_place" "bs_place" s_bs_place A.f_bs_place A.d_bs_place
  g_bs_place : mg "bs_place" = some (.ref A.f_bs_place)
  F_bs_first : Fun K "bs_first" "bs_first" s_bs_first A.f_bs_first A.d_bs_first
  g_bs_first : mg "bs_first" = some (.ref A.f_bs_first)
  F_bs_fits : Fun K "bs_fits" "bs_fits" s_bs_fits A.f_bs_fits A.d_bs_fits
  g_bs_fits : mg "bs_fits" = some (.ref A.f_bs_fits)
  F_groups_that_fit : Fun K "groups_that_fit" "groups_that_fit" s_groups_that_fit A.f_groups_that_fit A.d_groups_that_fit
  g_groups_that_fit : mg "groups_that_fit" = some (.ref A.f_groups_that_fit)
  F_persons_of_first : Fun K "persons_of_first" "persons_of_first" s_persons_of_first A.f_persons_of_first A.d_persons_of_first
  g_persons_of_first : mg "persons_of_first" = some (.ref A.f_persons_of_first)
  F_bs_minutes : Fun K "bs_minutes" "bs_minutes" s_bs_minutes A.f_bs_minutes A.d_bs_minutes
  g_bs_minutes : mg "bs_minutes" = some (.ref A.f_bs_minutes)
  F_bs_swell : Fun K "bs_swell" "bs_swell" s_bs_swell A.f_bs_swell A.d_bs_swell
  g_bs_swell : mg "bs_swell" = some (.ref A.f_bs_swell)
  F_bs_sail : Fun K "bs_sail" "bs_sail" s_bs_sail A.f_bs_sail A.d_bs_sail
  g_bs_sail : mg "bs_sail" = some (.ref A.f_bs_sail)
  F_answers : Fun K "answers" "answers" s_answers A.f_answers A.d_answers
  g_answers : mg "answers" = some (.ref A.f_answers)
  F_Ship_init : Fun K "__init__" "Ship.__init__" s_Ship_init A.f_Ship_init A.d_Ship_init
  F_Ship_answer : Fun K "answer" "Ship.answer" s_Ship_answer A.f_Ship_answer A.d_Ship_answer
  m_Ship_answer : Meth K A.c_Ship "answer" A.f_Ship_answer
  F_Ship_begin : Fun K "begin" "Ship.begin" s_Ship_begin A.f_Ship_begin A.d_Ship_begin
  m_Ship_begin : Meth K A.c_Ship "begin" A.f_Ship_begin
  F_Ship_change : Fun K "change" "Ship.change" s_Ship_change A.f_Ship_change A.d_Ship_change
  m_Ship_change : Meth K A.c_Ship "change" A.f_Ship_change
  F_Ship_take_back : Fun K "take_back" "Ship.take_back" s_Ship_take_back A.f_Ship_take_back A.d_Ship_take_back
  m_Ship_take_back : Meth K A.c_Ship "take_back" A.f_Ship_take_back
  F_Ship_do_again : Fun K "do_again" "Ship.do_again" s_Ship_do_again A.f_Ship_do_again A.d_Ship_do_again
  m_Ship_do_again : Meth K A.c_Ship "do_again" A.f_Ship_do_again
  F_changed : Fun K "changed" "changed" s_changed A.f_changed A.d_changed
  g_changed : mg "changed" = some (.ref A.f_changed)
  F_asked : Fun K "asked" "asked" s_asked A.f_asked A.d_asked
  g_asked : mg "asked" = some (.ref A.f_asked)
  i_MOST_PERSONS : ∃ t, mg "MOST_PERSONS" = some (.int 5000 t)
  i_MOST_BOATS : ∃ t, mg "MOST_BOATS" = some (.int 4 t)
  i_MOST_SEATS : ∃ t, mg "MOST_SEATS" = some (.int 200 t)
  i_MOST_WAY : ∃ t, mg "MOST_WAY" = some (.int 60 t)
  i_MOST_SWELL : ∃ t, mg "MOST_SWELL" = some (.int 9 t)
  i_MOST_GROUPS : ∃ t, mg "MOST_GROUPS" = some (.int 10 t)
  i_MOST_IN_GROUP : ∃ t, mg "MOST_IN_GROUP" = some (.int 200 t)
  i_MOST_MINUTES_AT_ONCE : ∃ t, mg "MOST_MINUTES_AT_ONCE" = some (.int 1440 t)
  i_LAST_MINUTE : ∃ t, mg "LAST_MINUTE" = some (.int 100000 t)
  i_MOST_TIMES_GONE : ∃ t, mg "MOST_TIMES_GONE" = some (.int 100000 t)
  i_MOST_TICKETS : ∃ t, mg "MOST_TICKETS" = some (.int 100000 t)
  i_MOST_CHANGES : ∃ t, mg "MOST_CHANGES" = some (.int 30 t)
  i_NONE_THERE : ∃ t, mg "NONE_THERE" = some (.int (-2) t)
  i_NO_ONE : ∃ t, mg "NO_ONE" = some (.int (-6) t)
  i_TOO_FEW : ∃ t, mg "TOO_FEW" = some (.int (-12) t)
  i_MAY_NOT_GO : ∃ t, mg "MAY_NOT_GO" = some (.int (-13) t)
  i_NOT_AS_IT_LIES : ∃ t, mg "NOT_AS_IT_LIES" = some (.int (-16) t)
  i_WRONG : ∃ t, mg "WRONG" = some (.int (-22) t)
  i_NO_MORE : ∃ t, mg "NO_MORE" = some (.int (-28) t)
  i_NEVER : ∃ t, mg "NEVER" = some (.int (-33) t)
  i_NO_SEATS : ∃ t, mg "NO_SEATS" = some (.int (-62) t)
  i_TOO_LATE : ∃ t, mg "TOO_LATE" = some (.int (-75) t)
  i_BS_START : ∃ t, mg "BS_START" = some (.int 0 t)
  i_BS_BOAT : ∃ t, mg "BS_BOAT" = some (.int 1 t)
  i_BS_INTO : ∃ t, mg "BS_INTO" = some (.int 2 t)
  i_BS_OUT : ∃ t, mg "BS_OUT" = some (.int 3 t)
  i_BS_GO : ∃ t, mg "BS_GO" = some (.int 4 t)
  i_BS_MINUTES : ∃ t, mg "BS_MINUTES" = some (.int 5 t)
  i_BS_SWELL : ∃ t, mg "BS_SWELL" = some (.int 6 t)
  i_BS_TICKET : ∃ t, mg "BS_TICKET" = some (.int 7 t)
  i_BS_CALL : ∃ t, mg "BS_CALL" = some (.int 8 t)
  i_BS_DROP : ∃ t, mg "BS_DROP" = some (.int 9 t)
  i_BS_SAIL : ∃ t, mg "BS_SAIL" = some (.int 10 t)
  i_BS_HOME : ∃ t, mg "BS_HOME" = some (.int 11 t)
  i_BS_SLACK : ∃ t, mg "BS_SLACK" = some (.int 12 t)
  i_BS_BROUGHT : ∃ t, mg "BS_BROUGHT" = some (.int 13 t)
  i_BS_FEWEST : ∃ t, mg "BS_FEWEST" = some (.int 14 t)
  i_BS_NEXT : ∃ t, mg "BS_NEXT" = some (.int 15 t)
  i_BS_WHERE : ∃ t, mg "BS_WHERE" = some (.int 16 t)
  i_BS_LOOK : ∃ t, mg "BS_LOOK" = some (.int 17 t)
  i_BS_PLACE : ∃ t, mg "BS_PLACE" = some (.int 18 t)
  i_BS_FIRST : ∃ t, mg "BS_FIRST" = some (.int 19 t)
  i_BS_FITS : ∃ t, mg "BS_FITS" = some (.int 20 t)
  i_BS_ALL : ∃ t, mg "BS_ALL" = some (.int 21 t)
  i_BS_MAY : ∃ t, mg "BS_MAY" = some (.int 22 t)
  i_BS_BACK : ∃ t, mg "BS_BACK" = some (.int 24 t)
  i_BS_AGAIN : ∃ t, mg "BS_AGAIN" = some (.int 25 t)
  i_BS_STATE : ∃ t, mg "BS_STATE" = some (.int 26 t)
  t_NUMBERS_BEHIND : mg "NUMBERS_BEHIND" = some (.ref A.a_NUMBERS_BEHIND) ∧ ∀ H : Hp, SqT K H A.a_NUMBERS_BEHIND ([2, 3, 2, 2, 1, 1, 1, 1, 1, 1, 1, 0, 0, 1, 1, 0, 1, 1, 1, 0, 1, 0, 0, 0, 0, 0, 0].map V.int)
  z_any : mg "any" = none
  z_enumerate : mg "enumerate" = none
  z_len : mg "len" = none
  z_list : mg "list" = none
  z_max : mg "max" = none
  z_min : mg "min" = none
  z_sum : mg "sum" = none
section
variable {K : PySem.W.Frag} {mg : Str → Option Value} {A : Ad}
theorem b_Boat_init (T : Txt K mg A) : Binds K A.d_Boat_init P_Boat_init [] := T.F_Boat_init.binds fun _ _ _ _ _ _ us hl => by
  obtain ⟨_, _, _, _, rfl⟩ := ln4 hl
  rfl
theorem b_Boat_is_on_its_way (T : Txt K mg A) : Binds K A.d_Boat_is_on_its_way P_Boat_is_on_its_way [] := T.F_Boat_is_on_its_way.binds fun _ _ _ _ _ _ us hl => by
  obtain ⟨_, rfl⟩ := ln1 hl
  rfl
theorem b_Boat_seats_left (T : Txt K mg A) : Binds K A.d_Boat_seats_left P_Boat_seats_left [] := T.F_Boat_seats_left.binds fun _ _ _ _ _ _ us hl => by
  obtain ⟨_, rfl⟩ := ln1 hl
  rfl
theorem b_Boat_twin (T : Txt K mg A) : Binds K A.d_Boat_twin P_Boat_twin [] := T.F_Boat_twin.binds fun _ _ _ _ _ _ us hl => by
  obtain ⟨_, rfl⟩ := ln1 hl
  rfl
theorem b_State_init (T : Txt K mg A) : Binds K A.d_State_init P_State_init [] := T.F_State_init.binds fun _ _ _ _ _ _ us hl => by
  obtain ⟨_, _, _, rfl⟩ := ln3 hl
  rfl
theorem b_State_has_boat (T : Txt K mg A) : Binds K A.d_State_has_boat P_State_has_boat [] := T.F_State_has_boat.binds fun _ _ _ _ _ _ us hl => by
  obtain ⟨_, _, rfl⟩ := ln2 hl
  rfl
theorem b_State_may_go (T : Txt K mg A) : Binds K A.d_State_may_go P_State_may_go [] := T.F_State_may_go.binds fun _ _ _ _ _ _ us hl => by
  obtain ⟨_, _, rfl⟩ := ln2 hl
  rfl
theorem b_State_waiting (T : Txt K mg A) : Binds K A.d_State_waiting P_State_waiting [] := T.F_State_waiting.binds fun _ _ _ _ _ _ us hl => by
  obtain ⟨_, rfl⟩ := ln1 hl
  rfl
theorem b_State_in_boats (T : Txt K mg A) : Binds K A.d_State_in_boats P_State_in_boats [] := T.F_State_in_boats.binds fun _ _ _ _ _ _ us hl => by
  obtain ⟨_, rfl⟩ := ln1 hl
  rfl
theorem b_State_free_on_ship (T : Txt K mg A) : Binds K A.d_State_free_on_ship P_State_free_on_ship [] := T.F_State_free_on_ship.binds fun _ _ _ _ _ _ us hl => by
  obtain ⟨_, rfl⟩ := ln1 hl
  rfl
theorem b_State_twin (T : Txt K mg A) : Binds K A.d_State_twin P_State_twin [] := T.F_State_twin.binds fun _ _ _ _ _ _ us hl => by
  obtain ⟨_, rfl⟩ := ln1 hl
  rfl
theorem b_bs_boat (T : Txt K mg A) : Binds K A.d_bs_boat P_bs_boat [] := T.F_bs_boat.binds fun _ _ _ _ _ _ us hl => by
  obtain ⟨_, _, _, _, rfl⟩ := ln4 hl
  rfl
theorem b_bs_into (T : Txt K mg A) : Binds K A.d_bs_into P_bs_into [] := T.F_bs_into.binds fun _ _ _ _ _ _ us hl => by
  obtain ⟨_, _, _, rfl⟩ := ln3 hl
  rfl
theorem b_bs_out (T : Txt K mg A) : Binds K A.d_bs_out P_bs_out [] := T.F_bs_out.binds fun _ _ _ _ _ _ us hl => by
  obtain ⟨_, _, _, rfl⟩ := ln3 hl
  rfl
theorem b_bs_go (T : Txt K mg A) : Binds K A.d_bs_go P_bs_go [] := T.F_bs_go.binds fun _ _ _ _ _ _ us hl => by
  obtain ⟨_, _, rfl⟩ := ln2 hl
  rfl
theorem b_refusal_to_move (T : Txt K mg A) : Binds K A.d_refusal_to_move P_refusal_to_move [] := T.F_refusal_to_move.binds fun _ _ _ _ _ _ us hl => by
  obtain ⟨_, _, _, rfl⟩ := ln3 hl
  rfl
theorem b_persons_beside (T : Txt K mg A) : Binds K A.d_persons_beside P_persons_beside [] := T.F_persons_beside.binds fun _ _ _ _ _ _ us hl => by
  obtain ⟨_, _, rfl⟩ := ln2 hl
  rfl
theorem b_move_in (T : Txt K mg A) : Binds K A.d_move_in P_move_in [] := T.F_move_in.binds fun _ _ _ _ _ _ us hl => by
  obtain ⟨_, _, _, rfl⟩ := ln3 hl
  rfl
theorem b_Changes_init (T : Txt K mg A) : Binds K A.d_Changes_init P_Changes_init [] := T.F_Changes_init.binds fun _ _ _ _ _ _ us hl => by
  obtain ⟨_, rfl⟩ := ln1 hl
  rfl
theorem b_Changes_keep (T : Txt K mg A) : Binds K A.d_Changes_keep P_Changes_keep [] := T.F_Changes_keep.binds fun _ _ _ _ _ _ us hl => by
  obtain ⟨_, _, rfl⟩ := ln2 hl
  rfl
theorem b_Changes_take_back (T : Txt K mg A) : Binds K A.d_Changes_take_back P_Changes_take_back [] := T.F_Changes_take_back.binds fun _ _ _ _ _ _ us hl => by
  obtain ⟨_, _, rfl⟩ := ln2 hl
  rfl
theorem b_Changes_do_again (T : Txt K mg A) : Binds K A.d_Changes_do_again P_Changes_do_again [] := T.F_Changes_do_again.binds fun _ _ _ _ _ _ us hl => by
  obtain ⟨_, _, rfl⟩ := ln2 hl
  rfl
theorem b_leaves_shore_in (T : Txt K mg A) : Binds K A.d_leaves_shore_in P_leaves_shore_in [] := T.F_leaves_shore_in.binds fun _ _ _ _ _ _ us hl => by
  obtain ⟨_, rfl⟩ := ln1 hl
  rfl
theorem b_times_at_ship (T : Txt K mg A) : Binds K A.d_times_at_ship P_times_at_ship [] := T.F_times_at_ship.binds fun _ _ _ _ _ _ us hl => by
  obtain ⟨_, _, rfl⟩ := ln2 hl
  rfl
theorem b_brought_within (T : Txt K mg A) : Binds K A.d_brought_within P_brought_within [] := T.F_brought_within.binds fun _ _ _ _ _ _ us hl => by
  obtain ⟨_, _, rfl⟩ := ln2 hl
  rfl
theorem b_persons_away (T : Txt K mg A) : Binds K A.d_persons_away P_persons_away [] := T.F_persons_away.binds fun _ _ _ _ _ _ us hl => by
  obtain ⟨_, rfl⟩ := ln1 hl
  rfl
theorem b_somebody_goes_ashore (T : Txt K mg A) : Binds K A.d_somebody_goes_ashore P_somebody_goes_ashore [] := T.F_somebody_goes_ashore.binds fun _ _ _ _ _ _ us hl => by
  obtain ⟨_, rfl⟩ := ln1 hl
  rfl
theorem b_last_one_coming (T : Txt K mg A) : Binds K A.d_last_one_coming P_last_one_coming [] := T.F_last_one_coming.binds fun _ _ _ _ _ _ us hl => by
  obtain ⟨_, rfl⟩ := ln1 hl
  rfl
theorem b_least_minutes (T : Txt K mg A) : Binds K A.d_least_minutes P_least_minutes [] := T.F_least_minutes.binds fun _ _ _ _ _ _ us hl => by
  obtain ⟨_, rfl⟩ := ln1 hl
  rfl
theorem b_bs_home (T : Txt K mg A) : Binds K A.d_bs_home P_bs_home [] := T.F_bs_home.binds fun _ _ _ _ _ _ us hl => by
  obtain ⟨_, rfl⟩ := ln1 hl
  rfl
theorem b_bs_slack (T : Txt K mg A) : Binds K A.d_bs_slack P_bs_slack [] := T.F_bs_slack.binds fun _ _ _ _ _ _ us hl => by
  obtain ⟨_, rfl⟩ := ln1 hl
  rfl
theorem b_bs_brought (T : Txt K mg A) : Binds K A.d_bs_brought P_bs_brought [] := T.F_bs_brought.binds fun _ _ _ _ _ _ us hl => by
  obtain ⟨_, _, rfl⟩ := ln2 hl
  rfl
theorem b_bs_fewest (T : Txt K mg A) : Binds K A.d_bs_fewest P_bs_fewest [] := T.F_bs_fewest.binds fun _ _ _ _ _ _ us hl => by
  obtain ⟨_, _, rfl⟩ := ln2 hl
  rfl
theorem b_least_or_refusal (T : Txt K mg A) : Binds K A.d_least_or_refusal P_least_or_refusal [] := T.F_least_or_refusal.binds fun _ _ _ _ _ _ us hl => by
  obtain ⟨_, rfl⟩ := ln1 hl
  rfl
theorem b_one_if (T : Txt K mg A) : Binds K A.d_one_if P_one_if [] := T.F_one_if.binds fun _ _ _ _ _ _ us hl => by
  obtain ⟨_, rfl⟩ := ln1 hl
  rfl
theorem b_as_bits (T : Txt K mg A) : Binds K A.d_as_bits P_as_bits [] := T.F_as_bits.binds fun _ _ _ _ _ _ us hl => by
  obtain ⟨_, rfl⟩ := ln1 hl
  rfl
theorem b_bs_next (T : Txt K mg A) : Binds K A.d_bs_next P_bs_next [] := T.F_bs_next.binds fun _ _ _ _ _ _ us hl => by
  obtain ⟨_, rfl⟩ := ln1 hl
  rfl
theorem b_bs_where (T : Txt K mg A) : Binds K A.d_bs_where P_bs_where [] := T.F_bs_where.binds fun _ _ _ _ _ _ us hl => by
  obtain ⟨_, _, rfl⟩ := ln2 hl
  rfl
theorem b_bs_look (T : Txt K mg A) : Binds K A.d_bs_look P_bs_look [] := T.F_bs_look.binds fun _ _ _ _ _ _ us hl => by
  obtain ⟨_, _, rfl⟩ := ln2 hl
  rfl
theorem b_bs_all (T : Txt K mg A) : Binds K A.d_bs_all P_bs_all [] := T.F_bs_all.binds fun _ _ _ _ _ _ us hl => by
  obtain ⟨_, rfl⟩ := ln1 hl
  rfl
theorem b_bs_may (T : Txt K mg A) : Binds K A.d_bs_may P_bs_may [] := T.F_bs_may.binds fun _ _ _ _ _ _ us hl => by
  obtain ⟨_, rfl⟩ := ln1 hl
  rfl
theorem b_bs_sums (T : Txt K mg A) : Binds K A.d_bs_sums P_bs_sums [] := T.F_bs_sums.binds fun _ _ _ _ _ _ us hl => by
  obtain ⟨_, rfl⟩ := ln1 hl
  rfl
theorem b_bs_state (T : Txt K mg A) : Binds K A.d_bs_state P_bs_state [] := T.F_bs_state.binds fun _ _ _ _ _ _ us hl => by
  obtain ⟨_, _, rfl⟩ := ln2 hl
  rfl
theorem b_bs_ticket (T : Txt K mg A) : Binds K A.d_bs_ticket P_bs_ticket [] := T.F_bs_ticket.binds fun _ _ _ _ _ _ us hl => by
  obtain ⟨_, _, rfl⟩ := ln2 hl
  rfl
theorem b_bs_call (T : Txt K mg A) : Binds K A.d_bs_call P_bs_call [] := T.F_bs_call.binds fun _ _ _ _ _ _ us hl => by
  obtain ⟨_, _, rfl⟩ := ln2 hl
  rfl
theorem b_bs_drop (T : Txt K mg A) : Binds K A.d_bs_drop P_bs_drop [] := T.F_bs_drop.binds fun _ _ _ _ _ _ us hl => by
  obtain ⟨_, _, rfl⟩ := ln2 hl
  rfl
theorem b_bs_place (T : Txt K mg A) : Binds K A.d_bs_place P_bs_place [] := T.F_bs_place.binds fun _ _ _ _ _ _ us hl => by
  obtain ⟨_, _, rfl⟩ := ln2 hl
  rfl
theorem b_bs_first (T : Txt K mg A) : Binds K A.d_bs_first P_bs_first [] := T.F_bs_first.binds fun _ _ _ _ _ _ us hl => by
  obtain ⟨_, rfl⟩ := ln1 hl
  rfl
theorem b_bs_fits (T : Txt K mg A) : Binds K A.d_bs_fits P_bs_fits [] := T.F_bs_fits.binds fun _ _ _ _ _ _ us hl => by
  obtain ⟨_, _, rfl⟩ := ln2 hl
  rfl
theorem b_groups_that_fit (T : Txt K mg A) : Binds K A.d_groups_that_fit P_groups_that_fit [] := T.F_groups_that_fit.binds fun _ _ _ _ _ _ us hl => by
  obtain ⟨_, _, rfl⟩ := ln2 hl
  rfl
theorem b_persons_of_first (T : Txt K mg A) : Binds K A.d_persons_of_first P_persons_of_first [] := T.F_persons_of_first.binds fun _ _ _ _ _ _ us hl => by
  obtain ⟨_, _, rfl⟩ := ln2 hl
  rfl
theorem b_bs_minutes (T : Txt K mg A) : Binds K A.d_bs_minutes P_bs_minutes [] := T.F_bs_minutes.binds fun _ _ _ _ _ _ us hl => by
  obtain ⟨_, _, rfl⟩ := ln2 hl
  rfl
theorem b_bs_swell (T : Txt K mg A) : Binds K A.d_bs_swell P_bs_swell [] := T.F_bs_swell.binds fun _ _ _ _ _ _ us hl => by
  obtain ⟨_, _, rfl⟩ := ln2 hl
  rfl
theorem b_bs_sail (T : Txt K mg A) : Binds K A.d_bs_sail P_bs_sail [] := T.F_bs_sail.binds fun _ _ _ _ _ _ us hl => by
  obtain ⟨_, _, rfl⟩ := ln2 hl
  rfl
theorem b_answers (T : Txt K mg A) : Binds K A.d_answers P_answers [] := T.F_answers.binds fun _ _ _ _ _ _ us hl => by
  obtain ⟨_, rfl⟩ := ln1 hl
  rfl
theorem b_Ship_init (T : Txt K mg A) : Binds K A.d_Ship_init P_Ship_init [] := T.F_Ship_init.binds fun _ _ _ _ _ _ us hl => by
  obtain ⟨_, rfl⟩ := ln1 hl
  rfl
theorem b_Ship_answer (T : Txt K mg A) : Binds K A.d_Ship_answer P_Ship_answer [] := T.F_Ship_answer.binds fun _ _ _ _ _ _ us hl => by
  obtain ⟨_, _, _, rfl⟩ := ln3 hl
  rfl
theorem b_Ship_begin (T : Txt K mg A) : Binds K A.d_Ship_begin P_Ship_begin [] := T.F_Ship_begin.binds fun _ _ _ _ _ _ us hl => by
  obtain ⟨_, _, _, rfl⟩ := ln3 hl
  rfl
theorem b_Ship_change (T : Txt K mg A) : Binds K A.d_Ship_change P_Ship_change [] := T.F_Ship_change.binds fun _ _ _ _ _ _ us hl => by
  obtain ⟨_, _, _, rfl⟩ := ln3 hl
  rfl
theorem b_Ship_take_back (T : Txt K mg A) : Binds K A.d_Ship_take_back P_Ship_take_back [] := T.F_Ship_take_back.binds fun _ _ _ _ _ _ us hl => by
  obtain ⟨_, rfl⟩ := ln1 hl
  rfl
theorem b_Ship_do_again (T : Txt K mg A) : Binds K A.d_Ship_do_again P_Ship_do_again [] := T.F_Ship_do_again.binds fun _ _ _ _ _ _ us hl => by
  obtain ⟨_, rfl⟩ := ln1 hl
  rfl
theorem b_changed (T : Txt K mg A) : Binds K A.d_changed P_changed [] := T.F_changed.binds fun _ _ _ _ _ _ us hl => by
  obtain ⟨_, _, _, rfl⟩ := ln3 hl
  rfl
theorem b_asked (T : Txt K mg A) : Binds K A.d_asked P_asked [] := T.F_asked.binds fun _ _ _ _ _ _ us hl => by
  obtain ⟨_, _, _, rfl⟩ := ln3 hl
  rfl
end
/-! ### what stands in the heap -/
def BoatAt (A : Ad) (H : Hp) (x : Addr) (b : Km439.Boat) : Prop := ∃ dx, H x = some (.ins A.c_Boat dx (bF b))
structure StX (A : Ad) (ok : Addr → Prop) (H : Hp) (a dx bl ql : Addr) (as ts : List Addr) (s : Km439.Sea) : Prop where
  st : H a = some (.ins A.c_State dx (sF s bl ql))
  bs : H bl = some (.lst (as.map V.ref))
  qs : H ql = some (.lst (ts.map V.ref))
  bn : as.length = s.boats.length
  bo : ∀ (i : Nat) (x : Addr) (b : Km439.Boat), as[i]? = some x → s.boats[i]? = some b → BoatAt A H x b
  qn : ts.length = s.queue.length
  gr : ∀ (i : Nat) (t : Addr) (q : Nat × Nat), ts[i]? = some t → s.queue[i]? = some q → H t = some (.tup [.int (q.1 : Nat), .int (q.2 : Nat)])
  nd : as.Nodup
  nq : bl ≠ ql
  oa : ok a
  ob : ok bl
  oq : ok ql
  os : ∀ x, x ∈ as → ok x
def StAt (A : Ad) (ok : Addr → Prop) (H : Hp) (a : Addr) (s : Km439.Sea) : Prop := ∃ dx bl ql as ts, StX A ok H a dx bl ql as ts s
/-- new, as seen from H0 -/
def fr (H0 : Hp) (x : Addr) : Prop := H0 x = none
section
variable {A : Ad} {ok ok' : Addr → Prop} {H H' H0 : Hp} {a dx bl ql : Addr} {as ts : List Addr} {s s' : Km439.Sea}
theorem BoatAt.same {x : Addr} {b : Km439.Boat} (h : BoatAt A H x b) (S : Same H H') : BoatAt A H' x b := let ⟨dx, e⟩ := h; ⟨dx, S _ _ e⟩
theorem StX.same (X : StX A ok H a dx bl ql as ts s) (S : Same H H') : StX A ok H' a dx bl ql as ts s :=
  ⟨S _ _ X.st, S _ _ X.bs, S _ _ X.qs, X.bn, fun i x b h1 h2 => (X.bo i x b h1 h2).same S, X.qn, fun i t q h1 h2 => S _ _ (X.gr i t q h1 h2), X.nd, X.nq, X.oa, X.ob, X.oq, X.os⟩
theorem StX.weak (X : StX A ok H a dx bl ql as ts s) (h : ∀ x, ok x → ok' x) : StX A ok' H a dx bl ql as ts s :=
  ⟨X.st, X.bs, X.qs, X.bn, X.bo, X.qn, X.gr, X.nd, X.nq, h _ X.oa, h _ X.ob, h _ X.oq, fun x hx => h _ (X.os x hx)⟩
theorem StAt.same (X : StAt A ok H a s) (S : Same H H') : StAt A ok H' a s := let ⟨dx, bl, ql, as, ts, x⟩ := X; ⟨dx, bl, ql, as, ts, x.same S⟩
theorem StAt.weak (X : StAt A ok H a s) (h : ∀ x, ok x → ok' x) : StAt A ok' H a s := let ⟨dx, bl, ql, as, ts, x⟩ := X; ⟨dx, bl, ql, as, ts, x.weak h⟩
theorem StX.at_ (X : StX A ok H a dx bl ql as ts s) : StAt A ok H a s := ⟨dx, bl, ql, as, ts, X⟩
theorem Same.put (S : Same H0 H) {x : Addr} (h : H0 x = none) (o : HO) : Same H0 (upd H x o) := fun b u e => by
  rw [upd_ne (ne_of_none e h)]
  exact S _ _ e
theorem Same.new {x : Addr} (h : H x = none) (o : HO) : Same H (upd H x o) := fun b u e => by
  rw [upd_ne (ne_of_none e h)]
  exact e
theorem ne_sb {x d1 d2 c1 c2 : Addr} {b : Km439.Boat} (h1 : H a = some (.ins c1 d1 (sF s bl ql))) (h2 : H x = some (.ins c2 d2 (bF b))) : a ≠ x :=
  ne_of h1 h2 fun e => by
    have e3 := (HO.ins.inj e).2.2
    exact absurd (congrArg List.length e3) (by show ¬ 9 = 6; decide)
theorem StX.boat (X : StX A ok H a dx bl ql as ts s) {i : Nat} {b : Km439.Boat} (h : s.boats[i]? = some b) : ∃ x, as[i]? = some x ∧ BoatAt A H x b := by
  have hi : i < as.length := by rw [X.bn]; exact (List.getElem?_eq_some_iff.mp h).1
  exact ⟨as[i], List.getElem?_eq_getElem hi, X.bo i _ b (List.getElem?_eq_getElem hi) h⟩
theorem StX.of (X : StX A ok H a dx bl ql as ts s) {i : Nat} {x : Addr} (h : as[i]? = some x) : ∃ b, s.boats[i]? = some b ∧ BoatAt A H x b := by
  have hi : i < s.boats.length := by rw [← X.bn]; exact (List.getElem?_eq_some_iff.mp h).1
  exact ⟨s.boats[i], List.getElem?_eq_getElem hi, X.bo i x _ h (List.getElem?_eq_getElem hi)⟩
theorem StX.group (X : StX A ok H a dx bl ql as ts s) {i : Nat} {t : Addr} (h : ts[i]? = some t) : ∃ q, s.queue[i]? = some q ∧ H t = some (.tup [.int (q.1 : Nat), .int (q.2 : Nat)]) := by
  have hi : i < s.queue.length := by rw [← X.qn]; exact (List.getElem?_eq_some_iff.mp h).1
  exact ⟨s.queue[i], List.getElem?_eq_getElem hi, X.gr i t _ h (List.getElem?_eq_getElem hi)⟩
theorem StX.nab (X : StX A ok H a dx bl ql as ts s) : a ≠ bl := ne_of X.st X.bs (by intro q; cases q)
theorem StX.naq (X : StX A ok H a dx bl ql as ts s) : a ≠ ql := ne_of X.st X.qs (by intro q; cases q)
theorem StX.nas (X : StX A ok H a dx bl ql as ts s) {i : Nat} {x : Addr} (h : as[i]? = some x) : a ≠ x := let ⟨_, _, _, e⟩ := X.of h; ne_sb X.st e
theorem StX.nbs (X : StX A ok H a dx bl ql as ts s) {i : Nat} {x : Addr} (h : as[i]? = some x) : bl ≠ x := let ⟨_, _, _, e⟩ := X.of h; ne_of X.bs e (by intro q; cases q)
theorem StX.nqs (X : StX A ok H a dx bl ql as ts s) {i : Nat} {x : Addr} (h : as[i]? = some x) : ql ≠ x := let ⟨_, _, _, e⟩ := X.of h; ne_of X.qs e (by intro q; cases q)
/-- a number of the state is written anew -/
theorem StX.setS (X : StX A ok H a dx bl ql as ts s) (hb : s'.boats = s.boats) (hq : s'.queue = s.queue) : StX A ok (upd H a (.ins A.c_State dx (sF s' bl ql))) a dx bl ql as ts s' :=
  ⟨upd_same, by rw [upd_ne X.nab.symm]; exact X.bs, by rw [upd_ne X.naq.symm]; exact X.qs, by rw [hb]; exact X.bn, fun i x b h1 h2 => by
    rw [hb] at h2
    obtain ⟨d, e⟩ := X.bo i x b h1 h2
    exact ⟨d, by rw [upd_ne (X.nas h1).symm]; exact e⟩, by rw [hq]; exact X.qn, fun i t q h1 h2 => by
    rw [hq] at h2
    have e := X.gr i t q h1 h2
    rw [upd_ne (ne_of e X.st (by intro q; cases q))]
    exact e, X.nd, X.nq, X.oa, X.ob, X.oq, X.os⟩
/-- a boat is written anew -/
theorem StX.setB (X : StX A ok H a dx bl ql as ts s) {i : Nat} {x d : Addr} {b b' : Km439.Boat} (hx : as[i]? = some x) (hb : s.boats[i]? = some b) (e : H x = some (.ins A.c_Boat d (bF b))) :
    StX A ok (upd H x (.ins A.c_Boat d (bF b'))) a dx bl ql as ts (s.set i b') := by
  refine ⟨?_, ?_, ?_, ?_, fun j y c h1 h2 => ?_, X.qn, fun j t q h1 h2 => ?_, X.nd, X.nq, X.oa, X.ob, X.oq, X.os⟩
  · rw [upd_ne (X.nas hx)]; exact X.st
  · rw [upd_ne (X.nbs hx)]; exact X.bs
  · rw [upd_ne (X.nqs hx)]; exact X.qs
  · show as.length = (s.boats.set i b').length
    rw [List.length_set]; exact X.bn
  · have h2 : (s.boats.set i b')[j]? = some c := h2
    by_cases hij : j = i
    · subst hij
      have hy : y = x := Option.some.inj (h1.symm.trans hx)
      subst hy
      rw [List.getElem?_set_self (List.getElem?_eq_some_iff.mp hb).1] at h2
      cases h2
      exact ⟨d, upd_same⟩
    · rw [List.getElem?_set_ne (fun q => hij q.symm)] at h2
      obtain ⟨d', e'⟩ := X.bo j y c h1 h2
      have hyx : y ≠ x := fun q => hij (nd_ix X.nd h1 (by rw [q]; exact hx))
      exact ⟨d', by rw [upd_ne hyx]; exact e'⟩
  · have e' := X.gr j t q h1 h2
    rw [upd_ne (ne_of e' e (by intro q; cases q))]
    exact e'
/-- one more boat -/
theorem StX.addB (X : StX A ok H a dx bl ql as ts s) {x d : Addr} {b : Km439.Boat} (e : H x = some (.ins A.c_Boat d (bF b))) (hn : ¬ x ∈ as) (hx : ok x) :
    StX A ok (upd H bl (.lst ((as ++ [x]).map V.ref))) a dx bl ql (as ++ [x]) ts { s with boats := s.boats ++ [b] } := by
  refine ⟨?_, upd_same, ?_, ?_, fun j y c h1 h2 => ?_, X.qn, fun j t q h1 h2 => ?_, ?_, X.nq, X.oa, X.ob, X.oq, fun y hy => ?_⟩
  · rw [upd_ne X.nab]; exact X.st
  · rw [upd_ne X.nq.symm]; exact X.qs
  · show (as ++ [x]).length = (s.boats ++ [b]).length
    rw [List.length_append, List.length_append, X.bn]; rfl
  · have h2 : (s.boats ++ [b])[j]? = some c := h2
    have ho : BoatAt A H y c := by
      by_cases hj : j < as.length
      · rw [List.getElem?_append_left hj] at h1
        rw [List.getElem?_append_left (by rw [← X.bn]; exact hj)] at h2
        exact X.bo j y c h1 h2
      · rw [List.getElem?_append_right (by omega)] at h1
        rw [List.getElem?_append_right (by rw [← X.bn]; omega), ← X.bn] at h2
        have hz : j - as.length = 0 := by
          have := (List.getElem?_eq_some_iff.mp h1).1
          rw [List.length_singleton] at this
          omega
        rw [hz] at h1 h2
        cases h1
        cases h2
        exact ⟨d, e⟩
    obtain ⟨d', e'⟩ := ho
    exact ⟨d', by rw [upd_ne (ne_of e' X.bs (by intro q; cases q))]; exact e'⟩
  · have e' := X.gr j t q h1 h2
    rw [upd_ne (ne_of e' X.bs (by intro q; cases q))]
    exact e'
  · exact nd_snoc X.nd hn
  · rcases List.mem_append.mp hy with z | z
    · exact X.os y z
    · rw [List.mem_singleton.mp z]; exact hx
/-- other groups: a new list -/
theorem StX.setQ (X : StX A ok H a dx bl ql as ts s) {q' : Addr} {ts' : List Addr} {l : List (Nat × Nat)} (e : H q' = some (.lst (ts'.map V.ref))) (hl : ts'.length = l.length) (hb : bl ≠ q') (hq : ok q')
    (g : ∀ (i : Nat) (t : Addr) (q : Nat × Nat), ts'[i]? = some t → l[i]? = some q → H t = some (.tup [.int (q.1 : Nat), .int (q.2 : Nat)])) (h1 : s'.boats = s.boats) (h2 : s'.queue = l) :
    StX A ok (upd H a (.ins A.c_State dx (sF s' bl q'))) a dx bl q' as ts' s' :=
  ⟨upd_same, by rw [upd_ne X.nab.symm]; exact X.bs, by rw [upd_ne (ne_of e X.st (by intro q; cases q))]; exact e, by rw [h1]; exact X.bn, fun i x b k1 k2 => by
    rw [h1] at k2
    obtain ⟨d, e⟩ := X.bo i x b k1 k2
    exact ⟨d, by rw [upd_ne (X.nas k1).symm]; exact e⟩, by rw [h2]; exact hl, fun i t q k1 k2 => by
    rw [h2] at k2
    have e := g i t q k1 k2
    rw [upd_ne (ne_of e X.st (by intro q; cases q))]
    exact e, X.nd, hb, X.oa, X.ob, hq, X.os⟩
/-- one more group -/
theorem StX.addQ (X : StX A ok H a dx bl ql as ts s) {t : Addr} {k n : Nat} (e : H t = some (.tup [.int (k : Nat), .int (n : Nat)])) :
    StX A ok (upd H ql (.lst ((ts ++ [t]).map V.ref))) a dx bl ql as (ts ++ [t]) { s with queue := s.queue ++ [(k, n)] } := by
  refine ⟨?_, ?_, upd_same, X.bn, fun j y c h1 h2 => ?_, ?_, fun j y q h1 h2 => ?_, X.nd, X.nq, X.oa, X.ob, X.oq, X.os⟩
  · rw [upd_ne X.naq]; exact X.st
  · rw [upd_ne X.nq]; exact X.bs
  · obtain ⟨d', e'⟩ := X.bo j y c h1 h2
    exact ⟨d', by rw [upd_ne (X.nqs h1).symm]; exact e'⟩
  · show (ts ++ [t]).length = (s.queue ++ [(k, n)]).length
    rw [List.length_append, List.length_append, X.qn]; rfl
  · have h2 : (s.queue ++ [(k, n)])[j]? = some q := h2
    have ho : H y = some (.tup [.int (q.1 : Nat), .int (q.2 : Nat)]) := by
      by_cases hj : j < ts.length
      · rw [List.getElem?_append_left hj] at h1
        rw [List.getElem?_append_left (by rw [← X.qn]; exact hj)] at h2
        exact X.gr j y q h1 h2
      · rw [List.getElem?_append_right (by omega)] at h1
        rw [List.getElem?_append_right (by rw [← X.qn]; omega), ← X.qn] at h2
        have hz : j - ts.length = 0 := by
          have := (List.getElem?_eq_some_iff.mp h1).1
          rw [List.length_singleton] at this
          omega
        rw [hz] at h1 h2
        cases h1
        cases h2
        exact e
    rw [upd_ne (ne_of ho X.qs (by intro q; cases q))]
    exact ho
/-- something else is written -/
theorem StX.out (X : StX A ok H a dx bl ql as ts s) {y : Addr} {o o' : HO} (hy : ¬ ok y) (h : H y = some o) (ho : ∀ xs, o ≠ .tup xs) : StX A ok (upd H y o') a dx bl ql as ts s := by
  have ne : ∀ {z : Addr}, ok z → z ≠ y := fun hz q => hy (q ▸ hz)
  refine ⟨?_, ?_, ?_, X.bn, fun j z c h1 h2 => ?_, X.qn, fun j t q h1 h2 => ?_, X.nd, X.nq, X.oa, X.ob, X.oq, X.os⟩
  · rw [upd_ne (ne X.oa)]; exact X.st
  · rw [upd_ne (ne X.ob)]; exact X.bs
  · rw [upd_ne (ne X.oq)]; exact X.qs
  · obtain ⟨d', e'⟩ := X.bo j z c h1 h2
    exact ⟨d', by rw [upd_ne (ne (X.os z (List.mem_of_getElem? h1)))]; exact e'⟩
  · have e' := X.gr j t q h1 h2
    rw [upd_ne (ne_of e' h fun q => ho _ q.symm)]
    exact e'
theorem StAt.out (X : StAt A ok H a s) {y : Addr} {o o' : HO} (hy : ¬ ok y) (h : H y = some o) (ho : ∀ xs, o ≠ .tup xs) : StAt A ok (upd H y o') a s :=
  let ⟨dx, bl, ql, as, ts, x⟩ := X; ⟨dx, bl, ql, as, ts, x.out hy h ho⟩
theorem StX.frame (X : StX A ok H a dx bl ql as ts s) {Pr : Addr → Prop} (F : ∀ b o, H b = some o → Pr b → H' b = some o) (h1 : ∀ x, ok x → Pr x) (h2 : ∀ t xs, H t = some (.tup xs) → Pr t) : StX A ok H' a dx bl ql as ts s :=
  ⟨F _ _ X.st (h1 _ X.oa), F _ _ X.bs (h1 _ X.ob), F _ _ X.qs (h1 _ X.oq), X.bn, fun i x b k1 k2 => let ⟨d, e⟩ := X.bo i x b k1 k2; ⟨d, F _ _ e (h1 _ (X.os x (List.mem_of_getElem? k1)))⟩, X.qn, fun i t q k1 k2 => F _ _ (X.gr i t q k1 k2) (h2 _ _ (X.gr i t q k1 k2)), X.nd, X.nq, X.oa, X.ob, X.oq, X.os⟩
theorem StAt.frame (X : StAt A ok H a s) {Pr : Addr → Prop} (F : ∀ b o, H b = some o → Pr b → H' b = some o) (h1 : ∀ x, ok x → Pr x) (h2 : ∀ t xs, H t = some (.tup xs) → Pr t) : StAt A ok H' a s :=
  let ⟨dx, bl, ql, as, ts, x⟩ := X; ⟨dx, bl, ql, as, ts, x.frame F h1 h2⟩
/-- what is not there is none of the state's -/
theorem StX.apart (X : StX A ok H a dx bl ql as ts s) {u : Addr} (h : H u = none) : StX A (fun x => ok x ∧ x ≠ u) H a dx bl ql as ts s :=
  ⟨X.st, X.bs, X.qs, X.bn, X.bo, X.qn, X.gr, X.nd, X.nq, ⟨X.oa, ne_of_none X.st h⟩, ⟨X.ob, ne_of_none X.bs h⟩, ⟨X.oq, ne_of_none X.qs h⟩, fun x hx => ⟨X.os x hx, by
    obtain ⟨i, hi⟩ := List.getElem?_of_mem hx
    obtain ⟨b, _, d, e⟩ := X.of hi
    exact ne_of_none e h⟩⟩
theorem StAt.apart (X : StAt A ok H a s) {u : Addr} (h : H u = none) : StAt A (fun x => ok x ∧ x ≠ u) H a s := let ⟨dx, bl, ql, as, ts, x⟩ := X; ⟨dx, bl, ql, as, ts, x.apart h⟩
end
/-! ### what a call promises -/
/-- a call that changes the state at a; H0: what others see -/
def Chg (A : Ad) (H : Hp) (a : Addr) (c : Km439.Call) (Q : VK) : Prop := ∃ (H0 : Hp) (s : Km439.Sea), Same H0 H ∧ StAt A (fr H0) H a s ∧ WF s ∧
  ∀ (H' : Hp) (p : Addr), Same H0 H' → StAt A (fr H0) H' a (nxt s c) → H' p = some (.lst ((Km439Neutral.told (ans s c)).map V.int)) → H0 p = none → Q (.ref p) H'
/-- a call that only tells -/
def Ask (A : Ad) (H : Hp) (a : Addr) (c : Km439.Call) (Q : VK) : Prop := ∃ (s : Km439.Sea), StAt A (fun _ => True) H a s ∧ WF s ∧
  ∀ (H' : Hp) (p : Addr), Same H H' → H' p = some (.lst ((Km439Neutral.told (ans s c)).map V.int)) → H p = none → Q (.ref p) H'
section
variable {A : Ad} {H H1 H0 : Hp} {a : Addr} {s s' : Km439.Sea} {c : Km439.Call} {Q : VK}
/-- refused: nothing is changed -/
theorem refuse {z : Int} (S : Same H0 H) (X : StAt A (fr H0) H a s) (k : ∀ (H' : Hp) (p : Addr), Same H0 H' → StAt A (fr H0) H' a (nxt s c) → H' p = some (.lst ((Km439Neutral.told (ans s c)).map V.int)) → H0 p = none → Q (.ref p) H')
    (S1 : Same H H1) (hc : Km439.act ⟨s, [], []⟩ c = (⟨s, [], []⟩, Km439.only z)) {p : Addr} (hp : H1 p = none) : Q (.ref p) (upd H1 p (.lst [.int z])) := by
  have e1 : nxt s c = s := by unfold nxt; rw [hc]
  have e2 : ans s c = Km439.only z := by unfold ans; rw [hc]
  refine k _ p ((S.trans S1).trans (Same.new hp _)) ?_ ?_ ((S.trans S1).free hp)
  · rw [e1]; exact X.same (S1.trans (Same.new hp _))
  · rw [e2]; exact upd_same
theorem doneC {an : Km439.Ans} (k : ∀ (H' : Hp) (p : Addr), Same H0 H' → StAt A (fr H0) H' a (nxt s c) → H' p = some (.lst ((Km439Neutral.told (ans s c)).map V.int)) → H0 p = none → Q (.ref p) H')
    (hc : Km439.act ⟨s, [], []⟩ c = ((⟨s, [], []⟩ : Km439.Desk).become s', an)) (S1 : Same H0 H1) (X : StAt A (fr H0) H1 a s') {p : Addr} (hp : H1 p = none) {l : List V} (hl : l = (Km439Neutral.told an).map V.int) : Q (.ref p) (upd H1 p (.lst l)) := by
  have e1 : nxt s c = s' := by unfold nxt; rw [hc]; rfl
  have e2 : ans s c = an := by unfold ans; rw [hc]
  refine k _ p (S1.trans (Same.new hp _)) ?_ ?_ (S1.free hp)
  · rw [e1]; exact X.same (Same.new hp _)
  · rw [e2, hl]; exact upd_same
theorem toldA {an : Km439.Ans} (k : ∀ (H' : Hp) (p : Addr), Same H H' → H' p = some (.lst ((Km439Neutral.told (ans s c)).map V.int)) → H p = none → Q (.ref p) H')
    (hc : ans s c = an) (S1 : Same H H1) {p : Addr} (hp : H1 p = none) {l : List V} (hl : l = (Km439Neutral.told an).map V.int) : Q (.ref p) (upd H1 p (.lst l)) := by
  refine k _ p (S1.trans (Same.new hp _)) ?_ (S1.free hp)
  rw [hc, hl]; exact upd_same
end
/-! ### a comprehension over a list: those that pass the test, each turned -/
section
variable {K : PySem.W.Frag} {α : Type}
theorem lc_map {a : Addr} {xs : List V} {items : List α} {p : α → Bool} {f : α → V} {g : TG} {tt : TT} {te : TE} {vs : List Nat} {σ : L2.St} {H1 : Hp} {Qd : Addr → Hp → Prop} (hx : SqL K H1 a xs) (hn : xs.length = items.length) (hz : items.length < sizeLine)
    (turn : ∀ (i : Nat) (x : V) (b : α) (H : Hp), xs[i]? = some x → items[i]? = some b → Same H1 H → ∀ (R : VK) (N : Hp → Prop), (p b = true → ∀ H4, Same H H4 → R (f b) H4) → (p b = false → ∀ H3, Same H H3 → N H3) →
      g x (wipe σ vs) H fun σ2 H2 => wipe σ2 vs = wipe σ vs ∧ tt σ2 H2 fun c H3 => if c = true then te σ2 H3 R else N H3)
    (k : ∀ (D : Addr) (H' : Hp), Same H1 H' → H1 D = none → H' D = some (.lst ((items.filter p).map f)) → Qd D H') :
    ∀ D, H1 D = none → ∃ W : Nat → Nat → Hp → Prop, (∃ m, W 0 m (upd H1 D (.lst []))) ∧ ∀ i m H, W i m H →
      ((Itl K a).stop i H ∧ Qd D H) ∨ ((Itl K a).go i H ∧ ∃ Nx : Hp → Prop, (∀ H', Nx H' → ∃ m', m' < m ∧ W (i + 1) m' H') ∧ ∀ x H', (Itl K a).yld i H x H' → g x (wipe σ vs) H' fun σ2 H2 => wipe σ2 vs = wipe σ vs ∧ tt σ2 H2 fun b H3 =>
        if b = true then te σ2 H3 fun y H4 => ∃ acc, H4 D = some (.lst acc) ∧ acc.length < sizeLine ∧ Nx (upd H4 D (.lst (acc ++ [y]))) else Nx H3) := by
  intro D hD
  refine lc_list (K := K) (a := a) (xs := xs) (Qd := fun H => Qd D H) (fun i H => Same H1 H ∧ H D = some (.lst (((items.take i).filter p).map f))) ⟨Same.new hD _, upd_same⟩ (fun i H _ h => h.1.seq hx) ?_ ?_
  · rintro i x H hi ⟨S, hacc⟩
    have hlt : i < items.length := by rw [← hn]; exact (List.getElem?_eq_some_iff.mp hi).1
    have hb : items[i]? = some items[i] := List.getElem?_eq_getElem hlt
    have et : items.take (i + 1) = items.take i ++ [items[i]] := by rw [List.take_succ, hb]; rfl
    refine turn i x _ H hi hb S (fun y H4 => ∃ acc, H4 D = some (.lst acc) ∧ acc.length < sizeLine ∧ _) _ (fun hp H4 S4 => ?_) (fun hp H3 S3 => ?_)
    · refine ⟨_, S4 _ _ hacc, ?_, Same.put (S.trans S4) hD _, ?_⟩
      · rw [List.length_map]
        exact Nat.lt_of_le_of_lt (List.length_filter_le _ _) (Nat.lt_of_le_of_lt (by rw [List.length_take]; exact Nat.min_le_right _ _) hz)
      · rw [upd_same, et, List.filter_append, List.map_append, List.filter_cons, if_pos hp]
        rfl
    · refine ⟨S.trans S3, ?_⟩
      rw [et, List.filter_append, List.filter_cons, if_neg (by rw [hp]; decide), List.filter_nil, List.append_nil]
      exact S3 _ _ hacc
  · rintro H ⟨S, h⟩
    rw [hn, List.take_length] at h
    exact k D H S hD h
end
end Bts

end
section
set_option Elab.async false
set_option linter.all false
set_option maxRecDepth 100000
set_option maxHeartbeats 4000000
namespace Bts
open PySem PySem.Spec PyProof.Rows L2
theorem args_maxD (a v : Value) : argsOk "max" ⟨[a], [(Str.ofString "default", v)]⟩ := by
  unfold argsOk; kernel_rfl
theorem max_name : (toString "max" ++ toString ".loop" : String) = "max.loop" := by
  decide
/-- the new list that keeps the best so far -/
def bestL (xs : Array Value) (c : Nat) : Obj := { cls := .type "list", dict := none, data := .seq xs c, slots := #[] }
section
variable {pg : Program} {wo : World} {Ar : Around} {RR : Result → Shared → Prop} {it : Addr} {foot wri : List Addr} {cnt : Nat} {isAt : Nat → Value → Prop} {stt : Nat → Heap → Prop}
theorem maxD_more (W : Walks pg wo Ar.in1 it foot wri cnt isAt stt) (bt : Nat → Nat → Bool) (hc : CmpOf pg wo Ar.in1 .Gt isAt bt) (Z : Addr) (hZ : Z ∉ foot) (kw : List (Str × Value)) : ∀ (m j : Nat) (s : Shared) (best : Value) (c : Nat), cnt - (j + 1) = m → j + 1 ≤ cnt → stt (j + 1) s.heap →
    isAt (argBest bt j) best → s.heap.get? Z = some (bestL #[best, best] c) → (∀ v h' tk, isAt (argBest bt (cnt - 1)) v → (∀ b o, b ∉ wri → b ≠ Z → s.heap.get? b = some o → h'.get? b = some o) → RR (.ok (.ret v)) { s with heap := h', toks := tk }) →
    codeAny (model pg wo) Ar (.builtin "max.loop" ⟨[.ref it, .none, .ref Z], kw⟩) RR s := by
  have hZw : Z ∉ wri := fun q => hZ (W.sub _ q)
  intro m
  induction m with
  | zero =>
    intro j s best c e1 e2 hs hb hg hR
    have ej : j + 1 = cnt := by omega
    refine codeAny_builtin PySem.F.entry_max_loop (by
      rw [Around.under_plainId PySem.F.plain_max_loop _]
      show wpAny _ Ar.in1 (seqItems? (.ref Z) >>= _) _ _ s
      refine wpAny_bind (wpAny_seqItems hg rfl ?_)
      show wpAny _ Ar.in1 (tryCatch (pyNext (.ref it)) _ >>= _) _ _ s
      refine wpAny_bind (wpAny_tryCatch (W.done s _ _ (ej ▸ hs) fun h' tk kp => ?_))
      have hg' := kp Z _ hZw hg
      show wpAny _ Ar.in1 (updateSeq Z (fun _ => #[]) >>= _) _ _ _
      refine wpAny_bind (wpAny_updateSeq hg' rfl (wpAny_bind (wpAny_letGo (wpAny_pure ?_))))
      exact hR best _ tk (by rw [← ej]; exact hb) fun b o n1 n2 e => (Heap.get?_update_other _ _ (Ne.symm n2)).trans (kp b o n1 e))
  | succ m ih =>
    intro j s best c e1 e2 hs hb hg hR
    have hlt : j + 1 < cnt := by omega
    refine codeAny_builtin PySem.F.entry_max_loop (by
      rw [Around.under_plainId PySem.F.plain_max_loop _]
      show wpAny _ Ar.in1 (seqItems? (.ref Z) >>= _) _ _ s
      refine wpAny_bind (wpAny_seqItems hg rfl ?_)
      show wpAny _ Ar.in1 (tryCatch (pyNext (.ref it)) _ >>= _) _ _ s
      refine wpAny_bind (wpAny_tryCatch (W.item (j + 1) s _ _ hlt hs fun v h' tk hv hs' kp => ?_))
      have hg' := kp Z _ hZw hg
      show wpAny _ Ar.in1 (tryCatch (holding [v, v] (richCompare .Gt v best >>= _)) _ >>= _) _ _ _
      refine wpAny_bind (wpAny_tryCatch (wpAny_holding (wpAny_bind (hc (j + 1) (argBest bt j) v best _ _ _ hv hb (wpAny_bind (wpAny_holding (wpAny_truthy_bool (wpAny_bind (wpAny_letGo (wpAny_pure ?_)))))))))) 
      cases eb : bt (j + 1) (argBest bt j) with
      | true =>
        simp only [if_true]
        refine wpAny_bind (wpAny_updateSeq hg' rfl (wpAny_bind (wpAny_letGo ?_)))
        rw [max_name]
        refine wpAny_pure ⟨plainId_quiet PySem.F.plain_max_loop _, ih (j + 1) _ v _ (by omega) hlt (W.frame _ _ _ hs' fun b q o e => (Heap.get?_update_other _ _ (fun z : Z = b => hZ (by rw [z]; exact q))).trans e) (by simp only [argBest, eb, if_true]; exact hv) (Heap.get?_update_self _ hg' rfl) fun v' h2 tk2 hv' kp2 => ?_⟩
        exact hR v' h2 tk2 hv' fun b o n1 n2 e => kp2 b o n1 n2 ((Heap.get?_update_other _ _ (Ne.symm n2)).trans (kp b o n1 e))
      | false =>
        simp only [Bool.false_eq_true, if_false]
        refine wpAny_bind (wpAny_letGo ?_)
        rw [max_name]
        refine wpAny_pure ⟨plainId_quiet PySem.F.plain_max_loop _, ih (j + 1) _ best c (by omega) hlt hs' (by simp only [argBest, eb, Bool.false_eq_true, if_false]; exact hb) hg' fun v' h2 tk2 hv' kp2 => ?_⟩
        exact hR v' h2 tk2 hv' fun b o n1 n2 e => kp2 b o n1 n2 (kp b o n1 e))
theorem maxD_first (W : Walks pg wo Ar.in1 it foot wri cnt isAt stt) (bt : Nat → Nat → Bool) (hc : CmpOf pg wo Ar.in1 .Gt isAt bt) (Z : Addr) (hZ : Z ∉ foot) (kw : List (Str × Value)) (hn : 0 < cnt) {s : Shared} {c : Nat} (hs : stt 0 s.heap) (hg : s.heap.get? Z = some (bestL #[] c))
    (hR : ∀ v h' tk, isAt (argBest bt (cnt - 1)) v → (∀ b o, b ∉ wri → b ≠ Z → s.heap.get? b = some o → h'.get? b = some o) → RR (.ok (.ret v)) { s with heap := h', toks := tk }) : codeAny (model pg wo) Ar (.builtin "max.loop" ⟨[.ref it, .none, .ref Z], kw⟩) RR s := by
  have hZw : Z ∉ wri := fun q => hZ (W.sub _ q)
  refine codeAny_builtin PySem.F.entry_max_loop (by
    rw [Around.under_plainId PySem.F.plain_max_loop _]
    show wpAny _ Ar.in1 (seqItems? (.ref Z) >>= _) _ _ s
    refine wpAny_bind (wpAny_seqItems hg rfl ?_)
    show wpAny _ Ar.in1 (tryCatch (pyNext (.ref it)) _ >>= _) _ _ s
    refine wpAny_bind (wpAny_tryCatch (W.item 0 s _ _ hn hs fun v h' tk hv hs' kp => ?_))
    have hg' := kp Z _ hZw hg
    show wpAny _ Ar.in1 (updateSeq Z (fun _ => #[v, v]) >>= _) _ _ _
    refine wpAny_bind (wpAny_updateSeq hg' rfl ?_)
    rw [max_name]
    refine wpAny_pure ⟨plainId_quiet PySem.F.plain_max_loop _, maxD_more W bt hc Z hZ kw _ 0 _ v _ rfl hn (W.frame _ _ _ hs' fun b q o e => (Heap.get?_update_other _ _ (fun z : Z = b => hZ (by rw [z]; exact q))).trans e) hv (Heap.get?_update_self _ hg' rfl) fun v' h2 tk2 hv' kp2 => ?_⟩
    exact hR v' h2 tk2 hv' fun b o n1 n2 e => kp2 b o n1 n2 ((Heap.get?_update_other _ _ (Ne.symm n2)).trans (kp b o n1 e)))
theorem maxD_none (W : Walks pg wo Ar.in1 it foot wri 0 isAt stt) (Z : Addr) (hZ : Z ∉ foot) (k : Str) (d : Value) {s : Shared} {c : Nat} (hs : stt 0 s.heap) (hg : s.heap.get? Z = some (bestL #[] c))
    (hR : ∀ h' tk, (∀ b o, b ∉ wri → s.heap.get? b = some o → h'.get? b = some o) → RR (.ok (.ret d)) { s with heap := h', toks := tk }) : codeAny (model pg wo) Ar (.builtin "max.loop" ⟨[.ref it, .none, .ref Z], [(k, d)]⟩) RR s := by
  refine codeAny_builtin PySem.F.entry_max_loop (by
    rw [Around.under_plainId PySem.F.plain_max_loop _]
    show wpAny _ Ar.in1 (seqItems? (.ref Z) >>= _) _ _ s
    refine wpAny_bind (wpAny_seqItems hg rfl ?_)
    show wpAny _ Ar.in1 (tryCatch (pyNext (.ref it)) _ >>= _) _ _ s
    refine wpAny_bind (wpAny_tryCatch (W.done s _ _ hs fun h' tk kp => ?_))
    exact wpAny_bind (wpAny_rule (wpAny_pure (hR h' tk kp))))
end
section
variable {pg : Program} {wo : World} {Ar : Around} {EE : Value → Shared → Prop} {s : Shared} {l : Addr} {its : List Value} {ns : List Int} {QQ : Value → Shared → Prop}
theorem max_dflt {d : Value} (hh : Ar.handled = none) (hl : s.heap.IsList l its.toArray) (hi : IntsAre its ns) (h0 : ns = [] → ∀ h' tk, (∀ b o, s.heap.get? b = some o → h'.get? b = some o) → QQ d { s with heap := h', toks := tk })
    (h1 : ∀ h' tk M t', (∀ b o, s.heap.get? b = some o → h'.get? b = some o) → M ∈ ns → (∀ a, a ∈ ns → a ≤ M) → QQ (.int M t') { s with heap := h', toks := tk }) : wpAny (model pg wo) Ar (call (.builtin "max") [.ref l] [(Str.ofString "default", d)]) QQ EE s := by
  obtain ⟨xs, e⟩ := hi.allInts.items
  have hn : numsOf (intItems xs).toList = ns := by rw [← e]; exact hi.numsOf
  rw [nums_intItems] at hn
  subst hn
  rw [e] at hl
  refine kmk_tree PySem.F.kind_max PySem.F.plain_max PySem.F.entry_max (args_maxD _ _) ?_
  show wpAny _ Ar.in1 (Builtin.Builtins.bindParams "max" ["key", "default"] 0 ⟨[], [(Str.ofString "default", d)]⟩ >>= _) _ _ s
  refine wpAny_bind (wpAny_of_eq (show Builtin.Builtins.bindParams "max" ["key", "default"] 0 ⟨[], [(Str.ofString "default", d)]⟩ = pure [none, some d] from rfl) (wpAny_bind (wpAny_pure (wpAny_bind (iter_intList hl fun s2 e2 st hfp hlI => ?_)))))
  subst e2
  refine wpAny_bind (wpAny_newObj_type ?_)
  rw [max_name]
  have hZ : (s.heap.push { cls := .type "list_iterator", data := .fields #[.ref l, .int 0 0] }).objs.size ∉ [s.heap.objs.size, l] := fun q => Nat.lt_irrefl _ (hfp _ q)
  have W := Walks.list (prog := pg) (w := wo) (A := Ar.in1) hh s.heap.objs.size l hlI (intItems xs)
  have st' : ((s.heap.push { cls := .type "list_iterator", data := .fields #[.ref l, .int 0 0] }).push { cls := .type "list", data := .seq #[] }).IsListIter s.heap.objs.size l 0 ∧ ((s.heap.push { cls := .type "list_iterator", data := .fields #[.ref l, .int 0 0] }).push { cls := .type "list", data := .seq #[] }).IsList l (intItems xs) :=
    W.frame 0 _ _ st fun b _ o q => Heap.get?_push_of_some _ q
  refine wpAny_pure ⟨plainId_quiet PySem.F.plain_max_loop _, ?_⟩
  by_cases hz : xs.size = 0
  · have W0 := W
    rw [show (intItems xs).size = 0 by simpa [intItems] using hz] at W0
    refine maxD_none (c := 0) W0 _ hZ _ d st' (Heap.get?_push_size _ rfl) fun h' tk kp => ?_
    refine h0 (by rw [List.map_eq_nil_iff]; exact List.eq_nil_of_length_eq_zero (by rw [Array.length_toList]; exact hz)) h' tk (old_kept fun b o n1 q => kp b o n1 (Heap.get?_push_of_some _ q))
  · refine maxD_first (c := 0) W _ (CmpOf.ints_gt (numAt xs) (fun _ _ => intItems_at)) _ hZ _ (by simpa [intItems] using Nat.pos_of_ne_zero hz) st' (Heap.get?_push_size _ rfl) fun v h' tk hv kp => ?_
    obtain ⟨t, rfl⟩ := intItems_at hv
    have hsz : (intItems xs).size = xs.size := by simp [intItems]
    rw [hsz] at hv ⊢
    obtain ⟨g1, g2⟩ := argBest_gt (numAt xs) (xs.size - 1)
    refine h1 h' tk _ t (old_kept fun b o n1 q => kp b o n1 (fun z => Nat.lt_irrefl _ (z ▸ Heap.lt_size q)) (Heap.get?_push_of_some _ q)) ?_ fun a ha => ?_
    · rw [numAt_eq]; exact PySem.getD_mem (by rw [List.length_map, Array.length_toList]; omega)
    · obtain ⟨j, hj, rfl⟩ := mem_getD ha
      rw [List.length_map, Array.length_toList] at hj
      rw [← numAt_eq]; exact g2 j (by omega)
end
/-- max(xs, default=e) of a list of ints -/
def tMaxD (K : PySem.W.Frag) (t : TA) (td : TE) : TE := fun σ H Q => t σ H fun vs H1 => td σ H1 fun dv H2 => ∃ (a : Addr) (ns : List Int), vs = [V.ref a] ∧ SqL K H2 a (ns.map V.int) ∧ (ns = [] → Q dv H2) ∧ ∀ m, m ∈ ns → (∀ y, y ∈ ns → y ≤ m) → Q (.int m) H2
theorem pe_maxD {X : Cx} {p pos kpos : Pos} {e d : Expr} {t : TA} {td : TE} (hg : Gl X "max") (hm : X.mg "max" = none) (ha : PA X [e] t) (hd : PE X d td) (hc : X.calm = true := by rfl)
    (hs : starEach [e] X.env = [(false, eval e X.env)] := by rfl) : PE X (.Call (.Name "max" p) [e] [⟨some "default", d, kpos⟩] pos) (tMaxD X.K t td) := by
  intro pins s σ H Q I h
  refine wpAny_Call_Name_kw (ld_blt I hg hm PyProof.Rows.boot_max ?_)
  refine PyProof.Rows.callWith_kw (thn (ha pos pins s σ H _ I h) fun us s1 ⟨vs, H1, I1, r1, q1⟩ => ?_) (by rw [hs]; rfl) (by rw [hs]; rfl)
  show wpAny _ _ (evalAll [(do let v ← eval d X.env; standAt pos; pure v)]) _ _ s1
  refine wpAny_evalAll_cons (wpAny_bind (thn (hd pins s1 σ H1 _ I1 q1) fun u s2 ⟨x, H2, I2, r2, a, ns, e1, hs2, k0, k1⟩ => wpAny_bind (wpAny_standAt (wpAny_pure (wpAny_evalAll_nil ?_)))))
  subst e1
  obtain ⟨its, rv, hl, _⟩ := I2.list hs2
  rw [Vals.ref1 r1]
  exact max_dflt (I.ok.hd hc) hl.isList rv.ints (fun hn h' tk hk => ⟨x, H2, I2.kept hk, r2, k0 hn⟩) (fun h' tk m t' hk h1 h2 => ⟨.int m, H2, I2.kept hk, ⟨_, rfl⟩, k1 m h1 h2⟩)
end Bts

end
section
set_option Elab.async false
set_option linter.all false
set_option maxRecDepth 100000
set_option maxHeartbeats 4000000
namespace Bts
open PySem PySem.Spec PyProof.Rows L2
/-! ### min(xs) of a list of tuples of two ints -/
theorem min_name : (toString "min" ++ toString ".loop" : String) = "min.loop" := by
  decide
section
variable {pg : Program} {wo : World} {Ar : Around} {RR : Result → Shared → Prop} {it : Addr} {foot wri : List Addr} {cnt : Nat} {isAt : Nat → Value → Prop} {stt : Nat → Heap → Prop}
/-- a comparison that looks into the heap -/
def CmpIn (pg : Program) (wo : World) (Ar : Around) (Old : Heap → Prop) (isAt : Nat → Value → Prop) (bt : Nat → Nat → Bool) : Prop :=
  ∀ (i j : Nat) (vi vj : Value) (s : Shared) (Q : Value → Shared → Prop) (E : Value → Shared → Prop), Old s.heap → isAt i vi → isAt j vj → Q (.bool (bt i j)) s → wpAny (model pg wo) Ar (richCompare .Lt vi vj) Q E s
theorem minT_more (W : Walks pg wo Ar.in1 it foot wri cnt isAt stt) (bt : Nat → Nat → Bool) (Old : Heap → Prop) (hc : CmpIn pg wo Ar.in1 Old isAt bt) (Z : Addr) (hZ : Z ∉ foot)
    (hO : ∀ h h' : Heap, Old h → (∀ b o, b ∉ wri → b ≠ Z → h.get? b = some o → h'.get? b = some o) → Old h') : ∀ (m j : Nat) (s : Shared) (best : Value) (c : Nat), cnt - (j + 1) = m → j + 1 ≤ cnt → stt (j + 1) s.heap → Old s.heap →
    isAt (argBest bt j) best → s.heap.get? Z = some (bestL #[best, best] c) → (∀ v h' tk, isAt (argBest bt (cnt - 1)) v → (∀ b o, b ∉ wri → b ≠ Z → s.heap.get? b = some o → h'.get? b = some o) → RR (.ok (.ret v)) { s with heap := h', toks := tk }) →
    codeAny (model pg wo) Ar (.builtin "min.loop" ⟨[.ref it, .none, .ref Z], []⟩) RR s := by
  have hZw : Z ∉ wri := fun q => hZ (W.sub _ q)
  intro m
  induction m with
  | zero =>
    intro j s best c e1 e2 hs ho hb hg hR
    have ej : j + 1 = cnt := by omega
    refine codeAny_builtin PySem.F.entry_min_loop (by
      rw [Around.under_plainId PySem.F.plain_min_loop _]
      show wpAny _ Ar.in1 (seqItems? (.ref Z) >>= _) _ _ s
      refine wpAny_bind (wpAny_seqItems hg rfl ?_)
      show wpAny _ Ar.in1 (tryCatch (pyNext (.ref it)) _ >>= _) _ _ s
      refine wpAny_bind (wpAny_tryCatch (W.done s _ _ (ej ▸ hs) fun h' tk kp => ?_))
      have hg' := kp Z _ hZw hg
      show wpAny _ Ar.in1 (updateSeq Z (fun _ => #[]) >>= _) _ _ _
      refine wpAny_bind (wpAny_updateSeq hg' rfl (wpAny_bind (wpAny_letGo (wpAny_pure ?_))))
      exact hR best _ tk (by rw [← ej]; exact hb) fun b o n1 n2 e => (Heap.get?_update_other _ _ (Ne.symm n2)).trans (kp b o n1 e))
  | succ m ih =>
    intro j s best c e1 e2 hs ho hb hg hR
    have hlt : j + 1 < cnt := by omega
    refine codeAny_builtin PySem.F.entry_min_loop (by
      rw [Around.under_plainId PySem.F.plain_min_loop _]
      show wpAny _ Ar.in1 (seqItems? (.ref Z) >>= _) _ _ s
      refine wpAny_bind (wpAny_seqItems hg rfl ?_)
      show wpAny _ Ar.in1 (tryCatch (pyNext (.ref it)) _ >>= _) _ _ s
      refine wpAny_bind (wpAny_tryCatch (W.item (j + 1) s _ _ hlt hs fun v h' tk hv hs' kp => ?_))
      have hg' := kp Z _ hZw hg
      have ho' : Old h' := hO _ _ ho fun b o n1 _ e => kp b o n1 e
      show wpAny _ Ar.in1 (tryCatch (holding [v, v] (richCompare .Lt v best >>= _)) _ >>= _) _ _ _
      refine wpAny_bind (wpAny_tryCatch (wpAny_holding (wpAny_bind (hc (j + 1) (argBest bt j) v best _ _ _ ho' hv hb (wpAny_bind (wpAny_holding (wpAny_truthy_bool (wpAny_bind (wpAny_letGo (wpAny_pure ?_))))))))))
      cases eb : bt (j + 1) (argBest bt j) with
      | true =>
        simp only [if_true]
        refine wpAny_bind (wpAny_updateSeq hg' rfl (wpAny_bind (wpAny_letGo ?_)))
        rw [min_name]
        refine wpAny_pure ⟨plainId_quiet PySem.F.plain_min_loop _, ih (j + 1) _ v _ (by omega) hlt (W.frame _ _ _ hs' fun b q o e => (Heap.get?_update_other _ _ (fun z : Z = b => hZ (by rw [z]; exact q))).trans e) (hO _ _ ho' fun b o _ n2 e => (Heap.get?_update_other _ _ (Ne.symm n2)).trans e) (by simp only [argBest, eb, if_true]; exact hv) (Heap.get?_update_self _ hg' rfl) fun v' h2 tk2 hv' kp2 => ?_⟩
        exact hR v' h2 tk2 hv' fun b o n1 n2 e => kp2 b o n1 n2 ((Heap.get?_update_other _ _ (Ne.symm n2)).trans (kp b o n1 e))
      | false =>
        simp only [Bool.false_eq_true, if_false]
        refine wpAny_bind (wpAny_letGo ?_)
        rw [min_name]
        refine wpAny_pure ⟨plainId_quiet PySem.F.plain_min_loop _, ih (j + 1) _ best c (by omega) hlt hs' ho' (by simp only [argBest, eb, Bool.false_eq_true, if_false]; exact hb) hg' fun v' h2 tk2 hv' kp2 => ?_⟩
        exact hR v' h2 tk2 hv' fun b o n1 n2 e => kp2 b o n1 n2 (kp b o n1 e))
theorem minT_first (W : Walks pg wo Ar.in1 it foot wri cnt isAt stt) (bt : Nat → Nat → Bool) (Old : Heap → Prop) (hc : CmpIn pg wo Ar.in1 Old isAt bt) (Z : Addr) (hZ : Z ∉ foot)
    (hO : ∀ h h' : Heap, Old h → (∀ b o, b ∉ wri → b ≠ Z → h.get? b = some o → h'.get? b = some o) → Old h') (hn : 0 < cnt) {s : Shared} {c : Nat} (hs : stt 0 s.heap) (ho : Old s.heap) (hg : s.heap.get? Z = some (bestL #[] c))
    (hR : ∀ v h' tk, isAt (argBest bt (cnt - 1)) v → (∀ b o, b ∉ wri → b ≠ Z → s.heap.get? b = some o → h'.get? b = some o) → RR (.ok (.ret v)) { s with heap := h', toks := tk }) : codeAny (model pg wo) Ar (.builtin "min.loop" ⟨[.ref it, .none, .ref Z], []⟩) RR s := by
  have hZw : Z ∉ wri := fun q => hZ (W.sub _ q)
  refine codeAny_builtin PySem.F.entry_min_loop (by
    rw [Around.under_plainId PySem.F.plain_min_loop _]
    show wpAny _ Ar.in1 (seqItems? (.ref Z) >>= _) _ _ s
    refine wpAny_bind (wpAny_seqItems hg rfl ?_)
    show wpAny _ Ar.in1 (tryCatch (pyNext (.ref it)) _ >>= _) _ _ s
    refine wpAny_bind (wpAny_tryCatch (W.item 0 s _ _ hn hs fun v h' tk hv hs' kp => ?_))
    have hg' := kp Z _ hZw hg
    have ho' : Old h' := hO _ _ ho fun b o n1 _ e => kp b o n1 e
    show wpAny _ Ar.in1 (updateSeq Z (fun _ => #[v, v]) >>= _) _ _ _
    refine wpAny_bind (wpAny_updateSeq hg' rfl ?_)
    rw [min_name]
    refine wpAny_pure ⟨plainId_quiet PySem.F.plain_min_loop _, minT_more W bt Old hc Z hZ hO _ 0 _ v _ rfl hn (W.frame _ _ _ hs' fun b q o e => (Heap.get?_update_other _ _ (fun z : Z = b => hZ (by rw [z]; exact q))).trans e) (hO _ _ ho' fun b o _ n2 e => (Heap.get?_update_other _ _ (Ne.symm n2)).trans e) hv (Heap.get?_update_self _ hg' rfl) fun v' h2 tk2 hv' kp2 => ?_⟩
    exact hR v' h2 tk2 hv' fun b o n1 n2 e => kp2 b o n1 n2 ((Heap.get?_update_other _ _ (Ne.symm n2)).trans (kp b o n1 e)))
end
section
variable {pg : Program} {wo : World} {Ar : Around} {EE : Value → Shared → Prop} {s : Shared} {l : Addr} {QQ : Value → Shared → Prop}
theorem min_heap {its : Array Value} (hh : Ar.handled = none) (hl : s.heap.IsList l its) (bt : Nat → Nat → Bool) (hn : 0 < its.size)
    (hc : CmpIn pg wo Ar.in1 (fun h => ∀ b o, s.heap.get? b = some o → h.get? b = some o) (fun i v => its[i]? = some v) bt)
    (h1 : ∀ v h' tk, its[argBest bt (its.size - 1)]? = some v → (∀ b o, s.heap.get? b = some o → h'.get? b = some o) → QQ v { s with heap := h', toks := tk }) : wpAny (model pg wo) Ar (call (.builtin "min") [.ref l] []) QQ EE s := by
  obtain ⟨ol, hol, _⟩ := id hl
  have hll : l < s.heap.objs.size := Heap.lt_size hol
  have hlI : l ≠ s.heap.objs.size := Nat.ne_of_lt hll
  refine kmk_tree PySem.F.kind_min PySem.F.plain_min PySem.F.entry_min (PySem.F.args_min1 _) ?_
  show wpAny _ Ar.in1 (Builtin.Builtins.bindParams "min" ["key", "default"] 0 ⟨[], []⟩ >>= _) _ _ s
  refine wpAny_bind (wpAny_of_eq (show Builtin.Builtins.bindParams "min" ["key", "default"] 0 ⟨[], []⟩ = pure [none, none] from rfl) (wpAny_bind (wpAny_pure (wpAny_bind (wpAny_pyIter_list hl ?_)))))
  refine wpAny_bind (wpAny_newObj_type ?_)
  rw [min_name]
  have hS : (s.heap.push { cls := .type "list_iterator", data := .fields #[.ref l, .int 0 0] }).objs.size = s.heap.objs.size + 1 := size_push' ..
  have hZ : (s.heap.push { cls := .type "list_iterator", data := .fields #[.ref l, .int 0 0] }).objs.size ∉ [s.heap.objs.size, l] := by
    rw [hS]
    intro q
    rcases List.mem_cons.mp q with q | q
    · exact absurd q (Nat.succ_ne_self _)
    · have q : s.heap.objs.size + 1 = l := List.mem_singleton.mp q
      have hll : l < s.heap.objs.size := hll
      exact absurd hll (by rw [← q]; exact Nat.not_lt.mpr (Nat.le_succ _))
  have W := Walks.list (prog := pg) (w := wo) (A := Ar.in1) hh s.heap.objs.size l hlI its
  have st' : ((s.heap.push { cls := .type "list_iterator", data := .fields #[.ref l, .int 0 0] }).push { cls := .type "list", data := .seq #[] }).IsListIter s.heap.objs.size l 0 ∧ ((s.heap.push { cls := .type "list_iterator", data := .fields #[.ref l, .int 0 0] }).push { cls := .type "list", data := .seq #[] }).IsList l its :=
    W.frame 0 _ _ ⟨⟨_, Heap.get?_push_size _ rfl, rfl, rfl⟩, (let ⟨o, e, r⟩ := hl; ⟨o, Heap.get?_push_of_some _ e, r⟩)⟩ fun b _ o q => Heap.get?_push_of_some _ q
  have hnew : ∀ b o, s.heap.get? b = some o → b ∉ [s.heap.objs.size] ∧ b ≠ (s.heap.push { cls := .type "list_iterator", data := .fields #[.ref l, .int 0 0] }).objs.size := fun b o e => by
    have hb := Heap.lt_size e
    exact ⟨fun q => absurd (List.mem_singleton.mp q) (Nat.ne_of_lt hb), by rw [hS]; exact Nat.ne_of_lt (Nat.lt_succ_of_lt hb)⟩
  refine wpAny_pure ⟨plainId_quiet PySem.F.plain_min_loop _, ?_⟩
  refine minT_first (c := 0) W bt _ hc _ hZ (fun h h' ho kp b o e => ?_) hn st' (fun b o e => Heap.get?_push_of_some _ (Heap.get?_push_of_some _ e)) (Heap.get?_push_size _ rfl) fun v h' tk hv kp => ?_
  · exact kp b o (hnew b o e).1 (hnew b o e).2 (ho b o e)
  · exact h1 v h' tk hv fun b o e => kp b o (hnew b o e).1 (hnew b o e).2 (Heap.get?_push_of_some _ (Heap.get?_push_of_some _ e))
end
/-- what comes out of comparing pairs by < -/
def ltP (p q : Int × Int) : Bool := decide (p.1 < q.1 ∨ p.1 = q.1 ∧ p.2 < q.2)
theorem lex2 (a b c d : Int) : HT.lexLt [a, b] [c, d] = ltP (a, b) (c, d) := by
  rw [HT.lexLt_cons, HT.lexLt_cons, HT.lexLt_nil_nil]
  unfold ltP
  by_cases h1 : a = c
  · rw [if_pos h1]
    by_cases h2 : b = d
    · rw [if_pos h2]
      exact (decide_eq_false (by simp only; omega)).symm
    · rw [if_neg h2]
      exact decide_eq_decide.mpr (by simp only; omega)
  · rw [if_neg h1]
    exact decide_eq_decide.mpr (by simp only; omega)
theorem best_lt (g : Nat → Int × Int) : ∀ n, argBest (fun i j => ltP (g i) (g j)) n ≤ n ∧ ∀ j, j ≤ n → (g (argBest (fun i j => ltP (g i) (g j)) n)).1 < (g j).1 ∨ (g (argBest (fun i j => ltP (g i) (g j)) n)).1 = (g j).1 ∧ (g (argBest (fun i j => ltP (g i) (g j)) n)).2 ≤ (g j).2
  | 0 => ⟨Nat.le_refl _, fun j hj => by
    have e : j = 0 := by omega
    subst e
    exact .inr ⟨rfl, Int.le_refl _⟩⟩
  | n + 1 => by
    obtain ⟨h1, h2⟩ := best_lt g n
    show (if ltP (g (n + 1)) (g (argBest _ n)) = true then n + 1 else argBest _ n) ≤ n + 1 ∧ ∀ j, j ≤ n + 1 → (g (if ltP (g (n + 1)) (g (argBest _ n)) = true then n + 1 else argBest _ n)).1 < _ ∨ (g (if ltP (g (n + 1)) (g (argBest _ n)) = true then n + 1 else argBest _ n)).1 = _ ∧ (g (if ltP (g (n + 1)) (g (argBest _ n)) = true then n + 1 else argBest _ n)).2 ≤ _
    generalize argBest (fun i j => ltP (g i) (g j)) n = k at h1 h2 ⊢
    by_cases c : ltP (g (n + 1)) (g k) = true
    · rw [if_pos c]
      have c := of_decide_eq_true c
      refine ⟨Nat.le_refl _, fun j hj => ?_⟩
      by_cases e : j = n + 1
      · subst e; exact .inr ⟨rfl, Int.le_refl _⟩
      · have := h2 j (by omega)
        omega
    · rw [if_neg c]
      have c : ¬ ((g (n + 1)).1 < (g k).1 ∨ (g (n + 1)).1 = (g k).1 ∧ (g (n + 1)).2 < (g k).2) := fun z => c (decide_eq_true z)
      refine ⟨by omega, fun j hj => ?_⟩
      by_cases e : j = n + 1
      · subst e; omega
      · exact h2 j (by omega)
/-- min(xs), xs a list of tuples of two ints -/
def rMinT (K : PySem.W.Frag) : List V → Hp → VK → Prop := fun vs H Q => ∃ (a : Addr) (ts : List Addr) (ps : List (Int × Int)), vs = [V.ref a] ∧ SqL K H a (ts.map V.ref) ∧ ts.length = ps.length ∧ 0 < ts.length ∧
  (∀ (i : Nat) (t : Addr) (p : Int × Int), ts[i]? = some t → ps[i]? = some p → SqT K H t [.int p.1, .int p.2]) ∧
  ∀ (i : Nat) (t : Addr) (p : Int × Int), ts[i]? = some t → ps[i]? = some p → (∀ (j : Nat) (q : Int × Int), ps[j]? = some q → p.1 < q.1 ∨ p.1 = q.1 ∧ p.2 ≤ q.2) → Q (.ref t) H
theorem cr_minT {X : Cx} (hc : X.calm = true) (hu : X.A.units + 1 < cLine) : CallR X (.builtin "min") (rMinT X.K) := by
  intro pins s σ H vs us Q I r h
  obtain ⟨a, ts, ps, rfl, hs, hlen, hne, htp, q⟩ := h
  obtain ⟨its, rv, hl, _⟩ := I.list hs
  rw [Vals.ref1 r]
  have hvl := rv.length
  rw [List.length_map] at hvl
  have hsz : its.toArray.size = ts.length := by rw [List.size_toArray]; exact hvl.symm
  let g : Nat → Int × Int := fun i => ps.getD i (0, 0)
  have item : ∀ (i : Nat) (v : Value), its.toArray[i]? = some v → ∃ t, ts[i]? = some t ∧ v = .ref t ∧ ps[i]? = some (g i) := fun i v hv => by
    have hv : its[i]? = some v := by simpa using hv
    have hi : i < its.length := (List.getElem?_eq_some_iff.mp hv).1
    have ht : ts[i]? = some (ts[i]'(by omega)) := List.getElem?_eq_getElem (by omega)
    generalize ts[i]'(by omega) = t at ht
    obtain ⟨u, hu1, hu2⟩ := rv.get (show (ts.map V.ref)[i]? = some (V.ref t) by rw [List.getElem?_map, ht]; rfl)
    have e : v = u := Option.some.inj (hv.symm.trans hu1)
    cases hu2
    refine ⟨t, ht, e, ?_⟩
    have hp : ps[i]? = some (ps[i]'(by omega)) := List.getElem?_eq_getElem (by omega)
    rw [hp]
    show some _ = some (ps.getD i (0, 0))
    rw [List.getD_eq_getElem?_getD, hp]
    rfl
  refine min_heap (I.ok.hd hc) hl.isList (fun i j => ltP (g i) (g j)) (by rw [hsz]; exact hne) ?_ fun v h' tk hv hk => ?_
  · intro i j vi vj s' Q' E' ho hi hj hq
    obtain ⟨ti, h1, rfl, p1⟩ := item i vi hi
    obtain ⟨tj, h2, rfl, p2⟩ := item j vj hj
    obtain ⟨i1, r1, l1, _⟩ := I.tuple (htp i ti _ h1 p1)
    obtain ⟨i2, r2, l2, _⟩ := I.tuple (htp j tj _ h2 p2)
    have v1 : IntsAre i1 [(g i).1, (g i).2] := Vals.ints (ns := [(g i).1, (g i).2]) r1
    have v2 : IntsAre i2 [(g j).1, (g j).2] := Vals.ints (ns := [(g j).1, (g j).2]) r2
    refine HT.lt_tupInts (l1.keeps ho) (l2.keeps ho) v1 v2 hu ?_
    rw [lex2]
    exact hq
  · obtain ⟨t, h1, rfl, p1⟩ := item _ v hv
    obtain ⟨b1, b2⟩ := best_lt g (its.toArray.size - 1)
    refine ⟨.ref t, H, I.kept hk, rfl, q _ t _ h1 p1 fun j z hz => ?_⟩
    have hj : j < ps.length := (List.getElem?_eq_some_iff.mp hz).1
    have e : g j = z := by
      show ps.getD j (0, 0) = z
      rw [List.getD_eq_getElem?_getD, hz]
      rfl
    have := b2 j (by omega)
    rw [e] at this
    exact this
end Bts

end
section
set_option Elab.async false
set_option linter.all false
set_option maxRecDepth 100000
set_option maxHeartbeats 4000000
namespace Bts
open PySem PySem.Spec PyProof.Rows L2
section
variable {P : Program} {w : World} {K : PySem.W.Frag} {mg : Str → Option Value} {base : Heap} {A : Ad}
def sp_Boat_init (K : PySem.W.Frag) (A : Ad) : Sp := fun vs H Q _ => ∃ (p dx : Addr) (n w v : Nat), vs = [.ref p, .int n, .int w, .int v] ∧ H p = some (.ins A.c_Boat dx []) ∧
  ∀ H' : Hp, H' p = some (.ins A.c_Boat dx (bF ⟨n, w, v, 0, false, 0⟩)) → (∀ b o, H b = some o → b ≠ p → H' b = some o) → Q .non H'
theorem ok_Boat_init (T : Txt K mg A) : FnOk P w K mg base CX0 1 A.f_Boat_init A.d_Boat_init P_Boat_init (sp_Boat_init K A) := by
  refine T.F_Boat_init.ok sc_Boat_init (fun vs H Q E h => ?_) (fun cdv Ar outer s0 H vs Q E hr h => ?_)
  · obtain ⟨p, dx, n, w', v, rfl, _⟩ := h
    rfl
  · obtain ⟨p, dx, n, w', v, rfl, hp, k⟩ := h
    refine ⟨_, (pss_cons (ps_fld (pv 0) (pv 1) rfl)
        (pss_cons (ps_fld (pv 0) (pv 2) rfl)
        (pss_cons (ps_fld (pv 0) (pv 3) rfl)
        (pss_cons (ps_fld (pv 0) pe_int rfl)
        (pss_cons (ps_fld (pv 0) pe_bl rfl)
        (pss_one (ps_fld (pv 0) pe_int rfl))))))), ?_⟩
    refine ⟨_, rfl, _, rfl, p, A.c_Boat, dx, _, rfl, hp, T.cl_Boat, T.n_Boat_seats, lt1000 few0, ?_⟩
    refine ⟨_, rfl, _, rfl, p, A.c_Boat, dx, _, rfl, upd_same, T.cl_Boat, T.n_Boat_way, lt1000 (few few0), ?_⟩
    refine ⟨_, rfl, _, rfl, p, A.c_Boat, dx, _, rfl, upd_same, T.cl_Boat, T.n_Boat_most_swell, lt1000 (few (few few0)), ?_⟩
    refine ⟨_, rfl, p, A.c_Boat, dx, _, rfl, upd_same, T.cl_Boat, T.n_Boat_inside, lt1000 (few (few (few few0))), ?_⟩
    refine ⟨_, rfl, p, A.c_Boat, dx, _, rfl, upd_same, T.cl_Boat, T.n_Boat_to_shore, lt1000 (few (few (few (few few0)))), ?_⟩
    refine ⟨_, rfl, p, A.c_Boat, dx, _, rfl, upd_same, T.cl_Boat, T.n_Boat_minutes_left, lt1000 (few (few (few (few (few few0))))), ?_⟩
    refine k _ (Eq.trans upd_same (congrArg (fun q => some (HO.ins A.c_Boat dx q)) (bF_new _ _ _ _ _ _))) fun b o e hb => ?_
    rw [upd_ne hb, upd_ne hb, upd_ne hb, upd_ne hb, upd_ne hb, upd_ne hb]
    exact e
def sp_Boat_is_on_its_way (K : PySem.W.Frag) (A : Ad) : Sp := fun vs H Q _ => ∃ (x : Addr) (b : Km439.Boat), vs = [.ref x] ∧ BoatAt A H x b ∧ Q (.bl (decide ((0 : Int) < (b.left : Nat)))) H
theorem ok_Boat_is_on_its_way (T : Txt K mg A) : FnOk P w K mg base CX0 1 A.f_Boat_is_on_its_way A.d_Boat_is_on_its_way P_Boat_is_on_its_way (sp_Boat_is_on_its_way K A) := by
  refine T.F_Boat_is_on_its_way.ok sc_Boat_is_on_its_way (fun vs H Q E h => ?_) (fun cdv Ar outer s0 H vs Q E hr h => ?_)
  · obtain ⟨x, b, rfl, _⟩ := h
    rfl
  · obtain ⟨x, b, rfl, ⟨dx, hb⟩, k⟩ := h
    refine ⟨_, (pss_one (ps_ret (pe_cmpR op_gt (pe_fld (pv 0) rfl) pe_int (nomark _)))), ?_⟩
    exact ⟨_, rfl, x, _, dx, _, _, rfl, hb, T.cl_Boat, T.n_Boat_minutes_left, bF_minutes_left b, _, _, rfl, rfl, k⟩
def sp_Boat_seats_left (K : PySem.W.Frag) (A : Ad) : Sp := fun vs H Q _ => ∃ (x : Addr) (b : Km439.Boat), vs = [.ref x] ∧ BoatAt A H x b ∧ Q (.int ((b.seats : Nat) - (b.in_ : Nat))) H
theorem ok_Boat_seats_left (T : Txt K mg A) : FnOk P w K mg base CX0 1 A.f_Boat_seats_left A.d_Boat_seats_left P_Boat_seats_left (sp_Boat_seats_left K A) := by
  refine T.F_Boat_seats_left.ok sc_Boat_seats_left (fun vs H Q E h => ?_) (fun cdv Ar outer s0 H vs Q E hr h => ?_)
  · obtain ⟨x, b, rfl, _⟩ := h
    rfl
  · obtain ⟨x, b, rfl, ⟨dx, hb⟩, k⟩ := h
    refine ⟨_, (pss_one (ps_ret (pe_op op_sub (pe_fld (pv 0) rfl) (pe_fld (pv 0) rfl)))), ?_⟩
    exact ⟨_, rfl, x, _, dx, _, _, rfl, hb, T.cl_Boat, T.n_Boat_seats, bF_seats b, _, rfl, x, _, dx, _, _, rfl, hb, T.cl_Boat, T.n_Boat_inside, bF_inside b, _, _, rfl, rfl, k⟩
def sp_State_has_boat (K : PySem.W.Frag) (A : Ad) : Sp := fun vs H Q _ => ∃ (a : Addr) (n : Nat) (s : Km439.Sea) (ok : Addr → Prop), vs = [.ref a, .int n] ∧ StAt A ok H a s ∧ Q (.bl (decide (n < s.boats.length))) H
theorem ok_State_has_boat (T : Txt K mg A) : FnOk P w K mg base CX0 1 A.f_State_has_boat A.d_State_has_boat P_State_has_boat (sp_State_has_boat K A) := by
  refine T.F_State_has_boat.ok sc_State_has_boat (fun vs H Q E h => ?_) (fun cdv Ar outer s0 H vs Q E hr h => ?_)
  · obtain ⟨a, n, s, ok, rfl, _⟩ := h
    rfl
  · obtain ⟨a, n, s, ok, rfl, ⟨dx, bl, ql, as, ts, X⟩, k⟩ := h
    refine ⟨_, (pss_one (ps_ret (pe_cmpR op_lt (pv 1) (pe_callB call_len_seq (by rfl) T.z_len PySem.boot_len (pa_cons (pe_fld (pv 0) rfl) pa_nil)) (nomark _)))), ?_⟩
    refine ⟨_, rfl, _, rfl, a, _, dx, _, _, rfl, X.st, T.cl_State, T.n_State_boats, sF_boats s bl ql, bl, _, rfl, .inl (SqL.of X.bs), _, _, rfl, rfl, ?_⟩
    have e : decide ((n : Int) < ((as.map V.ref).length : Nat)) = decide (n < s.boats.length) := by
      rw [List.length_map, X.bn]
      exact decide_eq_decide.mpr Int.ofNat_lt
    rw [← e] at k
    exact k
def sp_State_may_go (K : PySem.W.Frag) (A : Ad) : Sp := fun vs H Q _ => ∃ (a x : Addr) (s : Km439.Sea) (b : Km439.Boat) (ok : Addr → Prop), vs = [.ref a, .ref x] ∧ StAt A ok H a s ∧ BoatAt A H x b ∧ Q (.bl (s.may b)) H
theorem ok_State_may_go (T : Txt K mg A) : FnOk P w K mg base CX0 1 A.f_State_may_go A.d_State_may_go P_State_may_go (sp_State_may_go K A) := by
  refine T.F_State_may_go.ok sc_State_may_go (fun vs H Q E h => ?_) (fun cdv Ar outer s0 H vs Q E hr h => ?_)
  · obtain ⟨a, x, s, b, ok, rfl, _⟩ := h
    rfl
  · obtain ⟨a, x, s, b, ok, rfl, ⟨dx, bl, ql, as, ts, X⟩, ⟨d, hb⟩, k⟩ := h
    refine ⟨_, (pss_one (ps_ret (pe_cmpR op_le (pe_fld (pv 0) rfl) (pe_fld (pv 1) rfl) (nomark _)))), ?_⟩
    refine ⟨_, rfl, a, _, dx, _, _, rfl, X.st, T.cl_State, T.n_State_swell, sF_swell s bl ql, _, rfl, x, _, d, _, _, rfl, hb, T.cl_Boat, T.n_Boat_most_swell, bF_most_swell b, _, _, rfl, rfl, ?_⟩
    have e : decide (((s.swell : Nat) : Int) ≤ (b.swell : Nat)) = s.may b := decide_eq_decide.mpr Int.ofNat_le
    rw [← e] at k
    exact k
def sp_leaves_shore_in (K : PySem.W.Frag) (A : Ad) : Sp := fun vs H Q _ => ∃ (x : Addr) (b : Km439.Boat), vs = [.ref x] ∧ BoatAt A H x b ∧ Q (.int (soonN b : Nat)) H
theorem ok_leaves_shore_in (T : Txt K mg A) : FnOk P w K mg base CX0 1 A.f_leaves_shore_in A.d_leaves_shore_in P_leaves_shore_in (sp_leaves_shore_in K A) := by
  refine T.F_leaves_shore_in.ok sc_leaves_shore_in (fun vs H Q E h => ?_) (fun cdv Ar outer s0 H vs Q E hr h => ?_)
  · obtain ⟨x, b, rfl, _⟩ := h
    rfl
  · obtain ⟨x, b, rfl, ⟨d, hb⟩, k⟩ := h
    refine ⟨_, (pss_cons (ps_if (pt_val (pe_fld (pv 0) rfl)) (pss_one (ps_ret (pe_fld (pv 0) rfl))) pss_nil)
        (pss_one (ps_ret (pe_op op_add (pe_fld (pv 0) rfl) (pe_fld (pv 0) rfl))))), ?_⟩
    refine ⟨_, rfl, x, _, d, _, _, rfl, hb, T.cl_Boat, T.n_Boat_to_shore, bF_to_shore b, _, rfl, ?_⟩
    unfold soonN at k
    refine ite2 (fun c => ?_) (fun c => ?_)
    · rw [if_pos c] at k
      exact ⟨_, rfl, x, _, d, _, _, rfl, hb, T.cl_Boat, T.n_Boat_minutes_left, bF_minutes_left b, k⟩
    · rw [if_neg c, Int.natCast_add] at k
      exact ⟨_, rfl, x, _, d, _, _, rfl, hb, T.cl_Boat, T.n_Boat_minutes_left, bF_minutes_left b, _, rfl, x, _, d, _, _, rfl, hb, T.cl_Boat, T.n_Boat_way, bF_way b, _, _, rfl, rfl, k⟩
end
end Bts

end
section
set_option Elab.async false
set_option linter.all false
set_option maxRecDepth 100000
set_option maxHeartbeats 4000000
namespace Bts
open PySem PySem.Spec PyProof.Rows L2
section
variable {P : Program} {w : World} {K : PySem.W.Frag} {mg : Str → Option Value} {base : Heap} {A : Ad}
theorem persons_int (l : List (Nat × Nat)) : ((l.filter fun _ => true).map fun q : Nat × Nat => ((q.2 : Nat) : Int)).sum = ((Km439.persons l : Nat) : Int) :=
  sum_int (fun _ _ _ => rfl) (fun _ _ h => by cases h)
theorem map_ref_at {as : List Addr} {i : Nat} {x : V} (h : (as.map V.ref)[i]? = some x) : ∃ t, as[i]? = some t ∧ x = V.ref t := by
  rw [List.getElem?_map] at h
  cases e : as[i]? with
  | none => rw [e] at h; cases h
  | some t => rw [e] at h; exact ⟨t, rfl, (Option.some.inj h).symm⟩
theorem map_int {α : Type} (l : List α) (f : α → Int) : (l.map fun x => V.int (f x)) = (l.map f).map V.int := by
  rw [List.map_map]; rfl
theorem small10 {n : Nat} (h : n ≤ 10) : n < sizeLine := Nat.lt_of_le_of_lt h (by decide)
def sp_State_waiting (K : PySem.W.Frag) (A : Ad) : Sp := fun vs H Q _ => ∃ (a : Addr) (s : Km439.Sea) (ok : Addr → Prop), vs = [.ref a] ∧ StAt A ok H a s ∧ WF s ∧ ∀ H', Same H H' → Q (.int (Km439.persons s.queue : Nat)) H'
theorem ok_State_waiting (T : Txt K mg A) : FnOk P w K mg base CX0 1 A.f_State_waiting A.d_State_waiting P_State_waiting (sp_State_waiting K A) := by
  refine T.F_State_waiting.ok sc_State_waiting (fun vs H Q E h => ?_) (fun cdv Ar outer s0 H vs Q E hr h => ?_)
  · obtain ⟨a, s, ok, rfl, _⟩ := h
    rfl
  · obtain ⟨a, s, ok, rfl, ⟨dx, bl, ql, as, ts, X⟩, W, k⟩ := h
    refine ⟨_, (pss_one (ps_ret (pe_callB (cr_sum rfl) (by rfl) T.z_sum PyProof.Rows.boot_sum (pa_cons (pe_lc rfl sc_State_waiting.nd (pi_list (pe_fld (pv 0) rfl)) (blkOk_by (N := N_State_waiting) (sc := defScope s_State_waiting) (own := [("ticket", 1), ("persons", 2)]) (by decide +kernel)) (fun _ _ _ _ _ => (pg_tupK (K := K) (n := 2) rfl rfl (pgs_cons (pg_name (i := 1) sc_State_waiting.nd rfl (by first | exact Or.inl rfl | exact Or.inr rfl)) (pgs_cons (pg_name (i := 2) sc_State_waiting.nd rfl (by first | exact Or.inl rfl | exact Or.inr rfl)) pgs_nil)))) (fun _ _ _ _ _ => pts_nil) (fun _ _ _ _ _ => (pv 2))) pa_nil)))), ?_⟩
    refine ⟨_, rfl, a, _, dx, _, _, rfl, X.st, T.cl_State, T.n_State_groups, sF_groups s bl ql, ql, rfl, ⟨_, SqL.of X.qs⟩, ?_⟩
    refine lc_map (items := s.queue) (p := fun _ => true) (f := fun q => V.int (q.2 : Nat)) (SqL.of X.qs) (by rw [List.length_map, X.qn]) (small10 W.nq) ?_ ?_
    · intro i x q H' hi hq S R N hR hN
      obtain ⟨t, ht, rfl⟩ := map_ref_at hi
      exact ⟨t, _, rfl, SqT.of (S _ _ (X.gr i t q ht hq)), rfl, _, _, rfl, _, _, rfl, rfl, rfl, _, rfl, hR rfl _ (Same.refl _)⟩
    · intro D H' S hD hD'
      refine ⟨D, _, rfl, SqL.of (by rw [hD', map_int]), ?_⟩
      rw [persons_int]
      exact k H' S
def sp_State_free_on_ship (K : PySem.W.Frag) (A : Ad) : Sp := fun vs H Q _ => ∃ (a : Addr) (s : Km439.Sea) (ok : Addr → Prop), vs = [.ref a] ∧ StAt A ok H a s ∧ WF s ∧ ∀ H', Same H H' → Q (.int ((s.ship : Nat) - (Km439.persons s.queue : Nat))) H'
theorem ok_State_free_on_ship (T : Txt K mg A) : FnOk P w K mg base CX0 2 A.f_State_free_on_ship A.d_State_free_on_ship P_State_free_on_ship (sp_State_free_on_ship K A) := by
  refine T.F_State_free_on_ship.ok sc_State_free_on_ship (fun vs H Q E h => ?_) (fun cdv Ar outer s0 H vs Q E hr h => ?_)
  · obtain ⟨a, s, ok, rfl, _⟩ := h
    rfl
  · obtain ⟨a, s, ok, rfl, Y, W, k⟩ := h
    obtain ⟨dx, bl, ql, as, ts, X⟩ := id Y
    refine ⟨_, (pss_one (ps_ret (pe_op op_sub (pe_fld (pv 0) rfl) (pe_meth0 (pv 0) T.cl_State T.m_State_waiting (ok_State_waiting T) (hr.mono (by decide)) (b_State_waiting T) .nil pass0)))), ?_⟩
    exact ⟨_, rfl, a, _, dx, _, _, rfl, X.st, T.cl_State, T.n_State_on_ship, sF_on_ship s bl ql, _, rfl, a, dx, _, rfl, X.st, sF_no_waiting s bl ql, a, s, ok, rfl, Y, W, fun H' S => ⟨_, _, rfl, rfl, k H' S⟩⟩
def sp_times_at_ship (K : PySem.W.Frag) (A : Ad) : Sp := fun vs H Q _ => ∃ (x : Addr) (b : Km439.Boat) (t : Nat), vs = [.ref x, .int t] ∧ BoatAt A H x b ∧ WB b ∧ Q (.int (timesN b t : Nat)) H
theorem ok_times_at_ship (T : Txt K mg A) : FnOk P w K mg base CX0 2 A.f_times_at_ship A.d_times_at_ship P_times_at_ship (sp_times_at_ship K A) := by
  refine T.F_times_at_ship.ok sc_times_at_ship (fun vs H Q E h => ?_) (fun cdv Ar outer s0 H vs Q E hr h => ?_)
  · obtain ⟨x, b, t, rfl, _⟩ := h
    rfl
  · obtain ⟨x, b, t, rfl, Y, W, k⟩ := h
    obtain ⟨d, hb⟩ := id Y
    refine ⟨_, (pss_cons (ps_set (i := 2) sc_times_at_ship.nd rfl (by first | exact Or.inl rfl | exact Or.inr rfl) (pe_op op_add (pe_call (ok_leaves_shore_in T) (hr.mono (by decide)) rfl T.g_leaves_shore_in T.F_leaves_shore_in.kp (b_leaves_shore_in T) .nil pass0 (pa_cons (pv 0) pa_nil)) (pe_fld (pv 0) rfl)))
        (pss_cons (ps_if (pt_cmpR op_lt (pv 1) (pv 2) (nomark _)) (pss_one (ps_ret pe_int)) pss_nil)
        (pss_one (ps_ret (pe_op op_add pe_int (pe_op op_fdiv (pe_op op_sub (pv 1) (pv 2)) (pe_op op_mul pe_int (pe_fld (pv 0) rfl)))))))), ?_⟩
    refine ⟨_, rfl, x, b, rfl, Y, _, rfl, x, _, d, _, _, rfl, hb, T.cl_Boat, T.n_Boat_way, bF_way b, _, _, rfl, rfl, ?_⟩
    refine ⟨_, rfl, _, rfl, _, _, rfl, rfl, _, rfl, ?_⟩
    have w1 := W.w1
    have w2 := W.w2
    unfold timesN at k
    refine ite2 (fun c => ?_) (fun c => ?_)
    · have c := of_decide_eq_true c
      rw [if_pos (by omega)] at k
      exact k
    · have c : ¬ (t : Int) < (soonN b : Nat) + (b.way : Nat) := fun z => c (decide_eq_true z)
      rw [if_neg (by omega)] at k
      refine ⟨_, rfl, _, rfl, _, _, rfl, rfl, _, rfl, x, _, d, _, _, rfl, hb, T.cl_Boat, T.n_Boat_way, bF_way b, _, _, rfl, rfl, .inl ⟨by decide, by decide⟩, _, _, rfl, rfl, ⟨by omega, by omega⟩, _, _, rfl, rfl, ?_⟩
      have e : (1 : Int) + ((t : Int) - ((soonN b : Nat) + (b.way : Nat))) / (2 * (b.way : Nat)) = ((1 + (t - (soonN b + b.way)) / (2 * b.way) : Nat) : Int) := by
        rw [Int.natCast_add, Int.natCast_ediv, Int.natCast_sub (by omega), Int.natCast_add, Int.natCast_mul]
        rfl
      rw [← e] at k
      exact k
def sp_brought_within (K : PySem.W.Frag) (A : Ad) : Sp := fun vs H Q _ => ∃ (a : Addr) (s : Km439.Sea) (ok : Addr → Prop) (t : Nat), vs = [.ref a, .int t] ∧ StAt A ok H a s ∧ WF s ∧ ∀ H', Same H H' → Q (.int (s.brought t : Nat)) H'
theorem ok_brought_within (T : Txt K mg A) : FnOk P w K mg base CX0 3 A.f_brought_within A.d_brought_within P_brought_within (sp_brought_within K A) := by
  refine T.F_brought_within.ok sc_brought_within (fun vs H Q E h => ?_) (fun cdv Ar outer s0 H vs Q E hr h => ?_)
  · obtain ⟨a, s, ok, t, rfl, _⟩ := h
    rfl
  · obtain ⟨a, s, ok, t, rfl, Y, W, k⟩ := h
    obtain ⟨dx, bl, ql, as, ts, X⟩ := id Y
    refine ⟨_, (pss_one (ps_ret (pe_callB (cr_sum rfl) (by rfl) T.z_sum PyProof.Rows.boot_sum (pa_cons (pe_lc rfl sc_brought_within.nd (pi_list (pe_fld (pv 0) rfl)) (blkOk_by (N := N_brought_within) (sc := defScope s_brought_within) (own := [("boat", 2)]) (by decide +kernel)) (fun _ _ _ _ _ => (pg_name (i := 2) sc_brought_within.nd rfl (by first | exact Or.inl rfl | exact Or.inr rfl))) (fun _ _ _ _ _ => (pts_one (pt_val (pe_meth (pv 0) T.cl_State T.m_State_may_go (ok_State_may_go T) (hr.mono (by decide)) (b_State_may_go T) .nil pass0 (pa_cons (pv 2) pa_nil))))) (fun _ _ _ _ _ => (pe_op op_mul (pe_fldK (K := K) rfl (pv 2) rfl) (pe_call (ok_times_at_ship T) (hr.mono (by decide)) rfl T.g_times_at_ship T.F_times_at_ship.kp (b_times_at_ship T) .nil pass0 (pa_cons (pv 2) (pa_cons (pv 1) pa_nil)))))) pa_nil)))), ?_⟩
    refine ⟨_, rfl, a, _, dx, _, _, rfl, X.st, T.cl_State, T.n_State_boats, sF_boats s bl ql, bl, rfl, ⟨_, SqL.of X.bs⟩, ?_⟩
    refine lc_map (items := s.boats) (p := fun b => s.may b) (f := fun b => V.int ((b.seats : Nat) * (timesN b t : Nat))) (SqL.of X.bs) (by rw [List.length_map, X.bn]) (small10 (Nat.le_trans W.nb (by decide))) ?_ ?_
    · intro i x b H' hi hb S R N hR hN
      obtain ⟨y, hy, rfl⟩ := map_ref_at hi
      have Yb := (X.bo i y b hy hb).same S
      obtain ⟨d, eb⟩ := id Yb
      have wb := W.bo b (List.mem_of_getElem? hb)
      refine ⟨rfl, _, rfl, a, dx, _, rfl, S _ _ X.st, sF_no_may_go s bl ql, _, rfl, a, y, s, b, ok, rfl, Y.same S, Yb, _, rfl, ?_⟩
      refine ite2 (fun c => ?_) (fun c => ?_)
      · refine ⟨_, rfl, y, _, d, _, _, rfl, eb, T.cl_Boat, T.n_Boat_seats, bF_seats b, _, rfl, _, rfl, y, b, t, rfl, Yb, wb, _, _, rfl, rfl, .inl ⟨?_, ?_⟩, hR c _ (Same.refl _)⟩
        · have := wb.s2; omega
        · have := wb.s2; omega
      · exact hN (Bool.eq_false_iff.mpr c) _ (Same.refl _)
    · intro D H' S hD hD'
      refine ⟨D, _, rfl, SqL.of (by rw [hD', map_int]), ?_⟩
      rw [brought_int]
      exact k H' S
def sp_persons_away (K : PySem.W.Frag) (A : Ad) : Sp := fun vs H Q _ => ∃ (a : Addr) (s : Km439.Sea) (ok : Addr → Prop), vs = [.ref a] ∧ StAt A ok H a s ∧ WF s ∧ ∀ H', Same H H' → Q (.int (s.away : Nat)) H'
theorem ok_persons_away (T : Txt K mg A) : FnOk P w K mg base CX0 1 A.f_persons_away A.d_persons_away P_persons_away (sp_persons_away K A) := by
  refine T.F_persons_away.ok sc_persons_away (fun vs H Q E h => ?_) (fun cdv Ar outer s0 H vs Q E hr h => ?_)
  · obtain ⟨a, s, ok, rfl, _⟩ := h
    rfl
  · obtain ⟨a, s, ok, rfl, Y, W, k⟩ := h
    obtain ⟨dx, bl, ql, as, ts, X⟩ := id Y
    refine ⟨_, (pss_one (ps_ret (pe_op op_add (pe_fld (pv 0) rfl) (pe_callB (cr_sum rfl) (by rfl) T.z_sum PyProof.Rows.boot_sum (pa_cons (pe_lc rfl sc_persons_away.nd (pi_list (pe_fld (pv 0) rfl)) (blkOk_by (N := N_persons_away) (sc := defScope s_persons_away) (own := [("boat", 1)]) (by decide +kernel)) (fun _ _ _ _ _ => (pg_name (i := 1) sc_persons_away.nd rfl (by first | exact Or.inl rfl | exact Or.inr rfl))) (fun _ _ _ _ _ => (pts_one (pt_val (pe_fldK (K := K) rfl (pv 1) rfl)))) (fun _ _ _ _ _ => (pe_fldK (K := K) rfl (pv 1) rfl))) pa_nil))))), ?_⟩
    refine ⟨_, rfl, a, _, dx, _, _, rfl, X.st, T.cl_State, T.n_State_on_shore, sF_on_shore s bl ql, ?_⟩
    refine ⟨_, rfl, a, _, dx, _, _, rfl, X.st, T.cl_State, T.n_State_boats, sF_boats s bl ql, bl, rfl, ⟨_, SqL.of X.bs⟩, ?_⟩
    refine lc_map (items := s.boats) (p := fun b => b.shore) (f := fun b => V.int (b.in_ : Nat)) (SqL.of X.bs) (by rw [List.length_map, X.bn]) (small10 (Nat.le_trans W.nb (by decide))) ?_ ?_
    · intro i x b H' hi hb S R N hR hN
      obtain ⟨y, hy, rfl⟩ := map_ref_at hi
      obtain ⟨d, eb⟩ := (X.bo i y b hy hb).same S
      refine ⟨rfl, _, rfl, y, _, d, _, _, rfl, eb, T.cl_Boat, T.n_Boat_to_shore, bF_to_shore b, _, rfl, ?_⟩
      refine ite2 (fun c => ?_) (fun c => ?_)
      · exact ⟨_, rfl, y, _, d, _, _, rfl, eb, T.cl_Boat, T.n_Boat_inside, bF_inside b, hR c _ (Same.refl _)⟩
      · exact hN (Bool.eq_false_iff.mpr c) _ (Same.refl _)
    · intro D H' S hD hD'
      refine ⟨D, _, rfl, SqL.of (by rw [hD', map_int]), _, _, rfl, rfl, ?_⟩
      have r := k H' S
      rw [← away_int] at r
      exact r
def sp_somebody_goes_ashore (K : PySem.W.Frag) (A : Ad) : Sp := fun vs H Q _ => ∃ (a : Addr) (s : Km439.Sea) (ok : Addr → Prop), vs = [.ref a] ∧ StAt A ok H a s ∧ WF s ∧ ∀ H', Same H H' → Q (.bl (!s.clear)) H'
theorem ok_somebody_goes_ashore (T : Txt K mg A) : FnOk P w K mg base CX0 2 A.f_somebody_goes_ashore A.d_somebody_goes_ashore P_somebody_goes_ashore (sp_somebody_goes_ashore K A) := by
  refine T.F_somebody_goes_ashore.ok sc_somebody_goes_ashore (fun vs H Q E h => ?_) (fun cdv Ar outer s0 H vs Q E hr h => ?_)
  · obtain ⟨a, s, ok, rfl, _⟩ := h
    rfl
  · obtain ⟨a, s, ok, rfl, Y, W, k⟩ := h
    obtain ⟨dx, bl, ql, as, ts, X⟩ := id Y
    refine ⟨_, (pss_one (ps_ret (pe_callB (cr_any rfl) (by rfl) T.z_any PyProof.Rows.boot_any (pa_cons (pe_lc rfl sc_somebody_goes_ashore.nd (pi_list (pe_fld (pv 0) rfl)) (blkOk_by (N := N_somebody_goes_ashore) (sc := defScope s_somebody_goes_ashore) (own := [("boat", 1)]) (by decide +kernel)) (fun _ _ _ _ _ => (pg_name (i := 1) sc_somebody_goes_ashore.nd rfl (by first | exact Or.inl rfl | exact Or.inr rfl))) (fun _ _ _ _ _ => pts_nil) (fun _ _ _ _ _ => (pe_and (pe_fldK (K := K) rfl (pv 1) rfl) (pe_and (pe_meth0 (pv 1) T.cl_Boat T.m_Boat_is_on_its_way (ok_Boat_is_on_its_way T) (hr.mono (by decide)) (b_Boat_is_on_its_way T) .nil pass0) (pe_one (pe_cmpR op_gt (pe_fldK (K := K) rfl (pv 1) rfl) pe_int (nomark _))))))) pa_nil)))), ?_⟩
    refine ⟨_, rfl, a, _, dx, _, _, rfl, X.st, T.cl_State, T.n_State_boats, sF_boats s bl ql, bl, rfl, ⟨_, SqL.of X.bs⟩, ?_⟩
    refine lc_map (items := s.boats) (p := fun _ => true) (f := fun b => V.bl (b.shore && (decide ((0 : Int) < (b.left : Nat)) && decide ((0 : Int) < (b.in_ : Nat))))) (SqL.of X.bs) (by rw [List.length_map, X.bn]) (small10 (Nat.le_trans W.nb (by decide))) ?_ ?_
    · intro i x b H' hi hb S R N hR hN
      obtain ⟨y, hy, rfl⟩ := map_ref_at hi
      have Yb := (X.bo i y b hy hb).same S
      obtain ⟨d, eb⟩ := id Yb
      have r := hR rfl _ (Same.refl _)
      refine ⟨rfl, _, rfl, y, _, d, _, _, rfl, eb, T.cl_Boat, T.n_Boat_to_shore, bF_to_shore b, _, rfl, ?_⟩
      refine ite2 (fun c => ?_) (fun c => ?_)
      · rw [c, Bool.true_and] at r
        refine ⟨_, rfl, y, d, _, rfl, eb, bF_no_is_on_its_way b, y, b, rfl, Yb, _, rfl, ?_⟩
        refine ite2 (fun c2 => ?_) (fun c2 => ?_)
        · rw [c2, Bool.true_and] at r
          exact ⟨_, rfl, y, _, d, _, _, rfl, eb, T.cl_Boat, T.n_Boat_inside, bF_inside b, _, _, rfl, rfl, r⟩
        · rw [Bool.eq_false_iff.mpr c2, Bool.false_and] at r
          exact r
      · rw [Bool.eq_false_iff.mpr c, Bool.false_and] at r
        exact r
    · intro D H' S hD hD'
      refine ⟨D, (s.boats.filter fun _ => true).map fun b => (b.shore && (decide ((0 : Int) < (b.left : Nat)) && decide ((0 : Int) < (b.in_ : Nat)))), rfl, SqL.of (by rw [hD', List.map_map]; rfl), ?_⟩
      rw [List.filter_eq_self.mpr fun _ _ => rfl, List.any_map]
      have e := clear_any s
      have r := k H' S
      rw [← e] at r
      exact r
end
end Bts

end
section
set_option Elab.async false
set_option linter.all false
set_option maxRecDepth 100000
set_option maxHeartbeats 4000000
namespace Bts
open PySem PySem.Spec PyProof.Rows L2
section
variable {P : Program} {w : World} {K : PySem.W.Frag} {mg : Str → Option Value} {base : Heap} {A : Ad}
theorem iteD {c A B : Prop} [Decidable c] (hc : c) (h : A) : if decide c = true then A else B := by rw [if_pos (decide_eq_true hc)]; exact h
theorem iteDn {c A B : Prop} [Decidable c] (hc : ¬ c) (h : B) : if decide c = true then A else B := by rw [if_neg (by rw [decide_eq_false hc]; decide)]; exact h
theorem iteN {c A B : Prop} [Decidable c] (hc : ¬ c) (h : A) : if (!decide c) = true then A else B := by rw [if_pos (by rw [decide_eq_false hc]; rfl)]; exact h
theorem iteBn {b : Bool} {A B : Prop} (hc : b = false) (h : A) : if (!b) = true then A else B := by rw [hc]; exact iteT h
theorem iteBs {b : Bool} {A B : Prop} (hc : b = true) (h : B) : if (!b) = true then A else B := by rw [hc]; exact iteF h
theorem iteB {b : Bool} {A B : Prop} (hc : b = true) (h : A) : if b = true then A else B := by rw [if_pos hc]; exact h
theorem iteBf {b : Bool} {A B : Prop} (hc : b = false) (h : B) : if b = true then A else B := by rw [if_neg (by rw [hc]; decide)]; exact h
theorem one_le : ([] : List V).length ≤ sizeLine := Nat.zero_le _
theorem get_ref {as : List Addr} {i : Nat} {x : Addr} (h : as[i]? = some x) : (as.map V.ref)[i]? = some (V.ref x) := by rw [List.getElem?_map, h]; rfl
theorem lt_of_get {α : Type} {l : List α} {i : Nat} {x : α} (h : l[i]? = some x) : i < l.length := (List.getElem?_eq_some_iff.mp h).1
theorem not_lt_get {α : Type} {l : List α} {i : Nat} (h : l[i]? = none) : ¬ i < l.length := Nat.not_lt.mpr (List.getElem?_eq_none_iff.mp h)
def sp_move_in (K : PySem.W.Frag) (A : Ad) : Sp := fun vs H Q _ => ∃ (H0 : Hp) (a dx bl ql x : Addr) (as ts : List Addr) (s : Km439.Sea) (i : Nat) (b : Km439.Boat) (n : Int) (m z : Nat), vs = [.ref a, .ref x, .int n] ∧ Same H0 H ∧
  StX A (fr H0) H a dx bl ql as ts s ∧ as[i]? = some x ∧ s.boats[i]? = some b ∧ ((b.in_ : Nat) : Int) + n = (m : Nat) ∧ ((if b.shore = true then s.shore else s.ship : Nat) : Int) - n = (z : Nat) ∧
  ∀ H', Same H0 H' → StX A (fr H0) H' a dx bl ql as ts (if b.shore = true then { s.set i { b with in_ := m } with shore := z } else { s.set i { b with in_ := m } with ship := z }) → Q .non H'
theorem ok_move_in (T : Txt K mg A) : FnOk P w K mg base CX0 1 A.f_move_in A.d_move_in P_move_in (sp_move_in K A) := by
  refine T.F_move_in.ok sc_move_in (fun vs H Q E h => ?_) (fun cdv Ar outer s0 H vs Q E hr h => ?_)
  · obtain ⟨H0, a, dx, bl, ql, x, as, ts, s, i, b, n, m, z, rfl, _⟩ := h
    rfl
  · obtain ⟨H0, a, dx, bl, ql, x, as, ts, s, i, b, n, m, z, rfl, S, X, hx, hb, hm, hz, k⟩ := h
    obtain ⟨d, eb⟩ := X.bo i x b hx hb
    have X1 := X.setB (b' := { b with in_ := m }) hx hb eb
    have S1 : Same H0 (upd H x (.ins A.c_Boat d (bF { b with in_ := m }))) := Same.put S (X.os x (List.mem_of_getElem? hx)) _
    have e1 : putF "inside" (.int (((b.in_ : Nat) : Int) + n)) (bF b) = bF { b with in_ := m } := by rw [bF_put_inside, hm]; rfl
    refine ⟨_, (pss_cons (ps_fldaug (pv 1) (pv 2) in_add)
        (pss_one (ps_if (pt_val (pe_fld (pv 1) rfl)) (pss_one (ps_fldaug (pv 0) (pv 2) in_sub)) (pss_one (ps_fldaug (pv 0) (pv 2) in_sub))))), ?_⟩
    refine ⟨_, rfl, x, _, d, _, _, rfl, eb, T.cl_Boat, T.n_Boat_inside, bF_inside b, _, rfl, _, _, rfl, rfl, d, _, eb, (by show 6 < 1000; decide), ?_⟩
    rw [e1]
    refine ⟨_, rfl, x, _, d, _, _, rfl, upd_same, T.cl_Boat, T.n_Boat_to_shore, bF_to_shore _, _, rfl, ?_⟩
    refine ite2 (fun c => ?_) (fun c => ?_)
    · have c : b.shore = true := c
      rw [if_pos c] at hz
      refine ⟨_, rfl, a, _, dx, _, _, rfl, X1.st, T.cl_State, T.n_State_on_shore, sF_on_shore _ bl ql, _, rfl, _, _, rfl, rfl, dx, _, X1.st, (by show 9 < 1000; decide), ?_⟩
      have e2 : putF "on_shore" (.int (((s.shore : Nat) : Int) - n)) (sF (s.set i { b with in_ := m }) bl ql) = sF { s.set i { b with in_ := m } with shore := z } bl ql := by rw [sF_put_on_shore, hz]; rfl
      refine k _ ?_ ?_
      · exact Same.put S1 X.oa _
      · rw [if_pos c]
        have Z := X1.setS (s' := { s.set i { b with in_ := m } with shore := z }) rfl rfl
        rw [← e2] at Z
        exact Z
    · have c : ¬ b.shore = true := c
      rw [if_neg c] at hz
      refine ⟨_, rfl, a, _, dx, _, _, rfl, X1.st, T.cl_State, T.n_State_on_ship, sF_on_ship _ bl ql, _, rfl, _, _, rfl, rfl, dx, _, X1.st, (by show 9 < 1000; decide), ?_⟩
      have e2 : putF "on_ship" (.int (((s.ship : Nat) : Int) - n)) (sF (s.set i { b with in_ := m }) bl ql) = sF { s.set i { b with in_ := m } with ship := z } bl ql := by rw [sF_put_on_ship, hz]; rfl
      refine k _ ?_ ?_
      · exact Same.put S1 X.oa _
      · rw [if_neg c]
        have Z := X1.setS (s' := { s.set i { b with in_ := m } with ship := z }) rfl rfl
        rw [← e2] at Z
        exact Z
def refMove (s : Km439.Sea) (k n : Nat) : Int := match s.boats[k]? with
  | none => -2
  | some b => if n = 0 then -22 else if b.left ≠ 0 then -16 else 0
def sp_refusal_to_move (K : PySem.W.Frag) (A : Ad) : Sp := fun vs H Q _ => ∃ (a : Addr) (s : Km439.Sea) (ok : Addr → Prop) (k n : Nat), vs = [.ref a, .int k, .int n] ∧ StAt A ok H a s ∧ Q (.int (refMove s k n)) H
theorem ok_refusal_to_move (T : Txt K mg A) : FnOk P w K mg base CX0 2 A.f_refusal_to_move A.d_refusal_to_move P_refusal_to_move (sp_refusal_to_move K A) := by
  refine T.F_refusal_to_move.ok sc_refusal_to_move (fun vs H Q E h => ?_) (fun cdv Ar outer s0 H vs Q E hr h => ?_)
  · obtain ⟨a, s, ok, k, n, rfl, _⟩ := h
    rfl
  · obtain ⟨a, s, ok, k, n, rfl, Y, q⟩ := h
    obtain ⟨dx, bl, ql, as, ts, X⟩ := id Y
    refine ⟨_, (pss_cons (ps_if (pt_not (pt_val (pe_meth (pv 0) T.cl_State T.m_State_has_boat (ok_State_has_boat T) (hr.mono (by decide)) (b_State_has_boat T) .nil pass0 (pa_cons (pv 1) pa_nil)))) (pss_one (ps_ret (pe_gi (by rfl) T.i_NONE_THERE))) pss_nil)
        (pss_cons (ps_if (pt_cmpR op_eq (pv 2) pe_int (nomark _)) (pss_one (ps_ret (pe_gi (by rfl) T.i_WRONG))) pss_nil)
        (pss_cons (ps_if (pt_val (pe_meth0 (pe_ix ix_list (pe_fld (pv 0) rfl) (pv 1) (fun _ _ => rfl)) T.cl_Boat T.m_Boat_is_on_its_way (ok_Boat_is_on_its_way T) (hr.mono (by decide)) (b_Boat_is_on_its_way T) .nil pass0)) (pss_one (ps_ret (pe_gi (by rfl) T.i_NOT_AS_IT_LIES))) pss_nil)
        (pss_one (ps_ret pe_int))))), ?_⟩
    refine ⟨_, rfl, a, dx, _, rfl, X.st, sF_no_has_boat s bl ql, _, rfl, a, k, s, ok, rfl, Y, _, rfl, ?_⟩
    unfold refMove at q
    cases e : s.boats[k]? with
    | none =>
      simp only [e] at q
      exact iteN (not_lt_get e) q
    | some b =>
      simp only [e] at q
      obtain ⟨x, hx, Yb⟩ := X.boat e
      obtain ⟨d, eb⟩ := id Yb
      refine iteNS (lt_of_get e) ?_
      refine ⟨_, rfl, rfl, _, rfl, ?_⟩
      refine ite2 (fun c => ?_) (fun c => ?_)
      · have c : V.int (n : Nat) = V.int 0 := of_decide_eq_true c
        have c : ((n : Nat) : Int) = 0 := V.int.inj c
        rw [if_pos (by omega)] at q
        exact q
      · have c : ¬ V.int (n : Nat) = V.int 0 := fun z => c (decide_eq_true z)
        have c : ¬ n = 0 := fun z => c (by rw [z]; rfl)
        rw [if_neg c] at q
        refine ⟨_, rfl, a, _, dx, _, _, rfl, X.st, T.cl_State, T.n_State_boats, sF_boats s bl ql, _, rfl, bl, _, _, _, rfl, rfl, SqL.of X.bs, at_of rfl (get_ref hx), x, d, _, rfl, eb, bF_no_is_on_its_way b, x, b, rfl, Yb, _, rfl, ?_⟩
        refine ite2 (fun c => ?_) (fun c => ?_)
        · have c := of_decide_eq_true c
          rw [if_pos (by omega)] at q
          exact q
        · have c : ¬ (0 : Int) < (b.left : Nat) := fun z => c (decide_eq_true z)
          rw [if_neg (by omega)] at q
          exact q
def sp_persons_beside (K : PySem.W.Frag) (A : Ad) : Sp := fun vs H Q _ => ∃ (a x : Addr) (s : Km439.Sea) (ok : Addr → Prop) (b : Km439.Boat), vs = [.ref a, .ref x] ∧ StAt A ok H a s ∧ WF s ∧ BoatAt A H x b ∧
  ∀ H', Same H H' → Q (.int ((if b.shore = true then s.shore else s.ship - Km439.persons s.queue : Nat) : Nat)) H'
theorem ok_persons_beside (T : Txt K mg A) : FnOk P w K mg base CX0 3 A.f_persons_beside A.d_persons_beside P_persons_beside (sp_persons_beside K A) := by
  refine T.F_persons_beside.ok sc_persons_beside (fun vs H Q E h => ?_) (fun cdv Ar outer s0 H vs Q E hr h => ?_)
  · obtain ⟨a, x, s, ok, b, rfl, _⟩ := h
    rfl
  · obtain ⟨a, x, s, ok, b, rfl, Y, W, ⟨d, eb⟩, k⟩ := h
    obtain ⟨dx, bl, ql, as, ts, X⟩ := id Y
    refine ⟨_, (pss_one (ps_ret (pe_ifExp (pt_val (pe_fld (pv 1) rfl)) (pe_fld (pv 0) rfl) (pe_meth0 (pv 0) T.cl_State T.m_State_free_on_ship (ok_State_free_on_ship T) (hr.mono (by decide)) (b_State_free_on_ship T) .nil pass0)))), ?_⟩
    refine ⟨_, rfl, x, _, d, _, _, rfl, eb, T.cl_Boat, T.n_Boat_to_shore, bF_to_shore b, _, rfl, ?_⟩
    refine ite2 (fun c => ?_) (fun c => ?_)
    · have k := k H (Same.refl _)
      rw [if_pos c] at k
      exact ⟨_, rfl, a, _, dx, _, _, rfl, X.st, T.cl_State, T.n_State_on_shore, sF_on_shore s bl ql, k⟩
    · refine ⟨_, rfl, a, dx, _, rfl, X.st, sF_no_free_on_ship s bl ql, a, s, ok, rfl, Y, W, fun H' S => ?_⟩
      have k := k H' S
      rw [if_neg c, Int.natCast_sub W.wq] at k
      exact k
def sp_bs_into (K : PySem.W.Frag) (A : Ad) : Sp := fun vs H Q _ => ∃ (a : Addr) (k n : Nat), vs = [.ref a, .int k, .int n] ∧ Chg A H a (.into k n) Q
theorem ok_bs_into (T : Txt K mg A) : FnOk P w K mg base CX0 4 A.f_bs_into A.d_bs_into P_bs_into (sp_bs_into K A) := by
  refine T.F_bs_into.ok sc_bs_into (fun vs H Q E h => ?_) (fun cdv Ar outer s0 H vs Q E hr h => ?_)
  · obtain ⟨a, k, n, rfl, _⟩ := h
    rfl
  · obtain ⟨a, k, n, rfl, H0, s, S, Y, W, q⟩ := h
    obtain ⟨dx, bl, ql, as, ts, X⟩ := id Y
    refine ⟨_, (pss_cons (ps_set (i := 3) sc_bs_into.nd rfl (by first | exact Or.inl rfl | exact Or.inr rfl) (pe_call (ok_refusal_to_move T) (hr.mono (by decide)) rfl T.g_refusal_to_move T.F_refusal_to_move.kp (b_refusal_to_move T) .nil pass0 (pa_cons (pv 0) (pa_cons (pv 1) (pa_cons (pv 2) pa_nil)))))
        (pss_cons (ps_if (pt_cmpR op_lt (pv 3) pe_int (nomark _)) (pss_one (ps_ret (pe_lst (pa_cons (pv 3) pa_nil)))) pss_nil)
        (pss_cons (ps_set (i := 4) sc_bs_into.nd rfl (by first | exact Or.inl rfl | exact Or.inr rfl) (pe_ix ix_list (pe_fld (pv 0) rfl) (pv 1) (fun _ _ => rfl)))
        (pss_cons (ps_if (pt_cmpR op_lt (pe_call (ok_persons_beside T) (hr.mono (by decide)) rfl T.g_persons_beside T.F_persons_beside.kp (b_persons_beside T) .nil pass0 (pa_cons (pv 0) (pa_cons (pv 4) pa_nil))) (pv 2) (nomark _)) (pss_one (ps_ret (pe_lst (pa_cons (pe_gi (by rfl) T.i_TOO_FEW) pa_nil)))) pss_nil)
        (pss_cons (ps_if (pt_cmpR op_lt (pe_meth0 (pv 4) T.cl_Boat T.m_Boat_seats_left (ok_Boat_seats_left T) (hr.mono (by decide)) (b_Boat_seats_left T) .nil pass0) (pv 2) (nomark _)) (pss_one (ps_ret (pe_lst (pa_cons (pe_gi (by rfl) T.i_NO_SEATS) pa_nil)))) pss_nil)
        (pss_cons (ps_expr (pe_call (ok_move_in T) (hr.mono (by decide)) rfl T.g_move_in T.F_move_in.kp (b_move_in T) .nil pass0 (pa_cons (pv 0) (pa_cons (pv 4) (pa_cons (pv 2) pa_nil)))))
        (pss_one (ps_ret (pe_lst (pa_cons (pe_fld (pv 4) rfl) pa_nil)))))))))), ?_⟩
    refine ⟨_, rfl, _, rfl, _, rfl, a, s, fr H0, k, n, rfl, Y, ?_⟩
    refine ⟨_, rfl, _, _, rfl, rfl, _, rfl, ?_⟩
    cases e : s.boats[k]? with
    | none =>
      have er : refMove s k n = -2 := by unfold refMove; simp only [e]
      rw [er]
      refine iteD (by decide) ⟨_, rfl, (by show 1 ≤ sizeLine; decide), fun p hp => ?_⟩
      exact refuse S Y q (Same.refl _) (by simp only [Km439.act, e]) hp
    | some b =>
      obtain ⟨x, hx, Yb⟩ := X.boat e
      obtain ⟨d, eb⟩ := id Yb
      by_cases c1 : n = 0
      · have er : refMove s k n = -22 := by unfold refMove; simp only [e, if_pos c1]
        rw [er]
        refine iteD (by decide) ⟨_, rfl, (by show 1 ≤ sizeLine; decide), fun p hp => ?_⟩
        exact refuse S Y q (Same.refl _) (by simp only [Km439.act, e, if_pos c1]) hp
      by_cases c2 : b.left ≠ 0
      · have er : refMove s k n = -16 := by unfold refMove; simp only [e, if_neg c1, if_pos c2]
        rw [er]
        refine iteD (by decide) ⟨_, rfl, (by show 1 ≤ sizeLine; decide), fun p hp => ?_⟩
        exact refuse S Y q (Same.refl _) (by simp only [Km439.act, e, if_neg c1, if_pos c2]) hp
      have er : refMove s k n = 0 := by unfold refMove; simp only [e, if_neg c1, if_neg c2]
      rw [er]
      refine iteDn (by decide) ?_
      refine ⟨_, rfl, a, _, dx, _, _, rfl, X.st, T.cl_State, T.n_State_boats, sF_boats s bl ql, _, rfl, bl, _, _, _, rfl, rfl, SqL.of X.bs, at_of rfl (get_ref hx), ?_⟩
      refine ⟨_, rfl, _, rfl, a, x, s, fr H0, b, rfl, Y, W, Yb, fun H1 S1 => ?_⟩
      refine ⟨_, rfl, _, _, rfl, rfl, _, rfl, ?_⟩
      have wb := W.bo b (List.mem_of_getElem? e)
      have wi := wb.i
      by_cases c3 : (if b.shore = true then s.shore else s.ship - Km439.persons s.queue) < n
      · refine iteD (by omega) ⟨(by show 1 ≤ sizeLine; decide), fun p hp => ?_⟩
        exact refuse S Y q S1 (by simp only [Km439.act, e, if_neg c1, if_neg c2, if_pos c3]) hp
      refine iteDn (by omega) ?_
      refine ⟨_, rfl, x, d, _, rfl, S1 _ _ eb, bF_no_seats_left b, x, b, rfl, Yb.same S1, _, rfl, _, _, rfl, rfl, _, rfl, ?_⟩
      by_cases c4 : b.seats < b.in_ + n
      · refine iteD (by omega) ⟨(by show 1 ≤ sizeLine; decide), fun p hp => ?_⟩
        exact refuse S Y q S1 (by simp only [Km439.act, e, if_neg c1, if_neg c2, if_neg c3, if_pos c4]) hp
      refine iteDn (by omega) ?_
      have wq := W.wq
      have hz : ((if b.shore = true then s.shore else s.ship : Nat) : Int) - (n : Nat) = ((if b.shore = true then s.shore - n else s.ship - n : Nat) : Nat) := by
        by_cases c5 : b.shore = true
        · rw [if_pos c5] at c3 ⊢
          rw [if_pos c5]
          omega
        · rw [if_neg c5] at c3 ⊢
          rw [if_neg c5]
          omega
      refine ⟨_, rfl, _, rfl, _, rfl, H0, a, dx, bl, ql, x, as, ts, s, k, b, _, b.in_ + n, _, rfl, S.trans S1, X.same S1, hx, e, (by omega), hz, fun H2 S2 X2 => ?_⟩
      obtain ⟨d2, eb2⟩ : BoatAt A H2 x { b with in_ := b.in_ + n } := by
        refine X2.bo k x _ hx ?_
        by_cases c5 : b.shore = true
        · rw [if_pos c5]
          exact List.getElem?_set_self (lt_of_get e)
        · rw [if_neg c5]
          exact List.getElem?_set_self (lt_of_get e)
      refine ⟨_, rfl, x, _, d2, _, _, rfl, eb2, T.cl_Boat, T.n_Boat_inside, bF_inside _, (by show 1 ≤ sizeLine; decide), fun p hp => ?_⟩
      refine doneC q (s' := if b.shore = true then { s.set k { b with in_ := b.in_ + n } with shore := s.shore - n } else { s.set k { b with in_ := b.in_ + n } with ship := s.ship - n }) (an := Km439.only ((b.in_ + n : Nat) : Int)) (by simp only [Km439.act, e, if_neg c1, if_neg c2, if_neg c3, if_neg c4]; rfl) S2 ?_ hp rfl
      refine StX.at_ ?_ (dx := dx) (bl := bl) (ql := ql) (as := as) (ts := ts)
      by_cases c5 : b.shore = true
      · rw [if_pos c5] at X2 ⊢
        rw [if_pos c5] at X2
        exact X2
      · rw [if_neg c5] at X2 ⊢
        rw [if_neg c5] at X2
        exact X2
end
end Bts

end
section
set_option Elab.async false
set_option linter.all false
set_option maxRecDepth 100000
set_option maxHeartbeats 4000000
namespace Bts
open PySem PySem.Spec PyProof.Rows L2
section
variable {P : Program} {w : World} {K : PySem.W.Frag} {mg : Str → Option Value} {base : Heap} {A : Ad}
def sp_bs_out (K : PySem.W.Frag) (A : Ad) : Sp := fun vs H Q _ => ∃ (a : Addr) (k n : Nat), vs = [.ref a, .int k, .int n] ∧ Chg A H a (.out_ k n) Q
theorem ok_bs_out (T : Txt K mg A) : FnOk P w K mg base CX0 3 A.f_bs_out A.d_bs_out P_bs_out (sp_bs_out K A) := by
  refine T.F_bs_out.ok sc_bs_out (fun vs H Q E h => ?_) (fun cdv Ar outer s0 H vs Q E hr h => ?_)
  · obtain ⟨a, k, n, rfl, _⟩ := h
    rfl
  · obtain ⟨a, k, n, rfl, H0, s, S, Y, W, q⟩ := h
    obtain ⟨dx, bl, ql, as, ts, X⟩ := id Y
    refine ⟨_, (pss_cons (ps_set (i := 3) sc_bs_out.nd rfl (by first | exact Or.inl rfl | exact Or.inr rfl) (pe_call (ok_refusal_to_move T) (hr.mono (by decide)) rfl T.g_refusal_to_move T.F_refusal_to_move.kp (b_refusal_to_move T) .nil pass0 (pa_cons (pv 0) (pa_cons (pv 1) (pa_cons (pv 2) pa_nil)))))
        (pss_cons (ps_if (pt_cmpR op_lt (pv 3) pe_int (nomark _)) (pss_one (ps_ret (pe_lst (pa_cons (pv 3) pa_nil)))) pss_nil)
        (pss_cons (ps_set (i := 4) sc_bs_out.nd rfl (by first | exact Or.inl rfl | exact Or.inr rfl) (pe_ix ix_list (pe_fld (pv 0) rfl) (pv 1) (fun _ _ => rfl)))
        (pss_cons (ps_if (pt_cmpR op_lt (pe_fld (pv 4) rfl) (pv 2) (nomark _)) (pss_one (ps_ret (pe_lst (pa_cons (pe_gi (by rfl) T.i_TOO_FEW) pa_nil)))) pss_nil)
        (pss_cons (ps_expr (pe_call (ok_move_in T) (hr.mono (by decide)) rfl T.g_move_in T.F_move_in.kp (b_move_in T) .nil pass0 (pa_cons (pv 0) (pa_cons (pv 4) (pa_cons (pe_un un_neg (pv 2)) pa_nil)))))
        (pss_one (ps_ret (pe_lst (pa_cons (pe_fld (pv 4) rfl) pa_nil))))))))), ?_⟩
    refine ⟨_, rfl, _, rfl, _, rfl, a, s, fr H0, k, n, rfl, Y, ?_⟩
    refine ⟨_, rfl, _, _, rfl, rfl, _, rfl, ?_⟩
    cases e : s.boats[k]? with
    | none =>
      have er : refMove s k n = -2 := by unfold refMove; simp only [e]
      rw [er]
      refine iteD (by decide) ⟨_, rfl, (by show 1 ≤ sizeLine; decide), fun p hp => ?_⟩
      exact refuse S Y q (Same.refl _) (by simp only [Km439.act, e]) hp
    | some b =>
      obtain ⟨x, hx, Yb⟩ := X.boat e
      obtain ⟨d, eb⟩ := id Yb
      by_cases c1 : n = 0
      · have er : refMove s k n = -22 := by unfold refMove; simp only [e, if_pos c1]
        rw [er]
        refine iteD (by decide) ⟨_, rfl, (by show 1 ≤ sizeLine; decide), fun p hp => ?_⟩
        exact refuse S Y q (Same.refl _) (by simp only [Km439.act, e, if_pos c1]) hp
      by_cases c2 : b.left ≠ 0
      · have er : refMove s k n = -16 := by unfold refMove; simp only [e, if_neg c1, if_pos c2]
        rw [er]
        refine iteD (by decide) ⟨_, rfl, (by show 1 ≤ sizeLine; decide), fun p hp => ?_⟩
        exact refuse S Y q (Same.refl _) (by simp only [Km439.act, e, if_neg c1, if_pos c2]) hp
      have er : refMove s k n = 0 := by unfold refMove; simp only [e, if_neg c1, if_neg c2]
      rw [er]
      refine iteDn (by decide) ?_
      refine ⟨_, rfl, a, _, dx, _, _, rfl, X.st, T.cl_State, T.n_State_boats, sF_boats s bl ql, _, rfl, bl, _, _, _, rfl, rfl, SqL.of X.bs, at_of rfl (get_ref hx), ?_⟩
      refine ⟨_, rfl, x, _, d, _, _, rfl, eb, T.cl_Boat, T.n_Boat_inside, bF_inside b, _, rfl, _, _, rfl, rfl, _, rfl, ?_⟩
      by_cases c3 : b.in_ < n
      · refine iteD (by omega) ⟨(by show 1 ≤ sizeLine; decide), fun p hp => ?_⟩
        exact refuse S Y q (Same.refl _) (by simp only [Km439.act, e, if_neg c1, if_neg c2, if_pos c3]) hp
      refine iteDn (by omega) ?_
      have hz : ((if b.shore = true then s.shore else s.ship : Nat) : Int) - (-((n : Nat) : Int)) = ((if b.shore = true then s.shore + n else s.ship + n : Nat) : Nat) := by
        by_cases c5 : b.shore = true
        · rw [if_pos c5, if_pos c5]; omega
        · rw [if_neg c5, if_neg c5]; omega
      refine ⟨_, rfl, _, rfl, _, rfl, _, rfl, H0, a, dx, bl, ql, x, as, ts, s, k, b, _, b.in_ - n, _, rfl, S, X, hx, e, (by omega), hz, fun H2 S2 X2 => ?_⟩
      obtain ⟨d2, eb2⟩ : BoatAt A H2 x { b with in_ := b.in_ - n } := by
        refine X2.bo k x _ hx ?_
        by_cases c5 : b.shore = true
        · rw [if_pos c5]
          exact List.getElem?_set_self (lt_of_get e)
        · rw [if_neg c5]
          exact List.getElem?_set_self (lt_of_get e)
      refine ⟨_, rfl, x, _, d2, _, _, rfl, eb2, T.cl_Boat, T.n_Boat_inside, bF_inside _, (by show 1 ≤ sizeLine; decide), fun p hp => ?_⟩
      refine doneC q (s' := if b.shore = true then { s.set k { b with in_ := b.in_ - n } with shore := s.shore + n } else { s.set k { b with in_ := b.in_ - n } with ship := s.ship + n }) (an := Km439.only ((b.in_ - n : Nat) : Int)) (by simp only [Km439.act, e, if_neg c1, if_neg c2, if_neg c3]; rfl) S2 ?_ hp rfl
      refine StX.at_ ?_ (dx := dx) (bl := bl) (ql := ql) (as := as) (ts := ts)
      by_cases c5 : b.shore = true
      · rw [if_pos c5] at X2 ⊢
        rw [if_pos c5] at X2
        exact X2
      · rw [if_neg c5] at X2 ⊢
        rw [if_neg c5] at X2
        exact X2
def sp_bs_swell (K : PySem.W.Frag) (A : Ad) : Sp := fun vs H Q _ => ∃ (a : Addr) (v : Nat), vs = [.ref a, .int v] ∧ Chg A H a (.swell v) Q
theorem ok_bs_swell (T : Txt K mg A) : FnOk P w K mg base CX0 1 A.f_bs_swell A.d_bs_swell P_bs_swell (sp_bs_swell K A) := by
  refine T.F_bs_swell.ok sc_bs_swell (fun vs H Q E h => ?_) (fun cdv Ar outer s0 H vs Q E hr h => ?_)
  · obtain ⟨a, v, rfl, _⟩ := h
    rfl
  · obtain ⟨a, v, rfl, H0, s, S, Y, W, q⟩ := h
    obtain ⟨dx, bl, ql, as, ts, X⟩ := id Y
    refine ⟨_, (pss_cons (ps_if (pt_cmpR op_gt (pv 1) (pe_gi (by rfl) T.i_MOST_SWELL) (nomark _)) (pss_one (ps_ret (pe_lst (pa_cons (pe_gi (by rfl) T.i_WRONG) pa_nil)))) pss_nil)
        (pss_cons (ps_set (i := 2) sc_bs_swell.nd rfl (by first | exact Or.inl rfl | exact Or.inr rfl) (pe_fld (pv 0) rfl))
        (pss_cons (ps_fld (pv 0) (pv 1) rfl)
        (pss_one (ps_ret (pe_lst (pa_cons (pv 2) pa_nil))))))), ?_⟩
    refine ⟨_, rfl, _, _, rfl, rfl, _, rfl, ?_⟩
    by_cases c1 : 9 < v
    · refine iteD (by omega) ⟨(by show 1 ≤ sizeLine; decide), fun p hp => ?_⟩
      exact refuse S Y q (Same.refl _) (by simp only [Km439.act, if_pos c1]) hp
    refine iteDn (by omega) ?_
    refine ⟨_, rfl, a, _, dx, _, _, rfl, X.st, T.cl_State, T.n_State_swell, sF_swell s bl ql, ?_⟩
    refine ⟨_, rfl, _, rfl, a, _, dx, _, rfl, X.st, T.cl_State, T.n_State_swell, (by show 9 < 1000; decide), ?_⟩
    refine ⟨_, rfl, (by show 1 ≤ sizeLine; decide), fun p hp => ?_⟩
    have Z := X.setS (s' := { s with swell := v }) rfl rfl
    have e2 : putF "swell" (.int ((v : Nat) : Int)) (sF s bl ql) = sF { s with swell := v } bl ql := by rw [sF_put_swell]; rfl
    rw [← e2] at Z
    exact doneC q (s' := { s with swell := v }) (an := Km439.only ((s.swell : Nat) : Int)) (by simp only [Km439.act, if_neg c1]) (Same.put S X.oa _) Z.at_ hp rfl
def sp_bs_sail (K : PySem.W.Frag) (A : Ad) : Sp := fun vs H Q _ => ∃ (a : Addr) (t : Nat), vs = [.ref a, .int t] ∧ Chg A H a (.sail t) Q
theorem ok_bs_sail (T : Txt K mg A) : FnOk P w K mg base CX0 1 A.f_bs_sail A.d_bs_sail P_bs_sail (sp_bs_sail K A) := by
  refine T.F_bs_sail.ok sc_bs_sail (fun vs H Q E h => ?_) (fun cdv Ar outer s0 H vs Q E hr h => ?_)
  · obtain ⟨a, t, rfl, _⟩ := h
    rfl
  · obtain ⟨a, t, rfl, H0, s, S, Y, W, q⟩ := h
    obtain ⟨dx, bl, ql, as, ts, X⟩ := id Y
    refine ⟨_, (pss_cons (ps_if (PW.pt (pw_or (pt_cmpR op_lt (pv 1) (pe_fld (pv 0) rfl) (nomark _)) (pw_or1 (pt_cmpR op_gt (pv 1) (pe_gi (by rfl) T.i_LAST_MINUTE) (nomark _))))) (pss_one (ps_ret (pe_lst (pa_cons (pe_gi (by rfl) T.i_WRONG) pa_nil)))) pss_nil)
        (pss_cons (ps_set (i := 2) sc_bs_sail.nd rfl (by first | exact Or.inl rfl | exact Or.inr rfl) (pe_fld (pv 0) rfl))
        (pss_cons (ps_fld (pv 0) (pv 1) rfl)
        (pss_one (ps_ret (pe_lst (pa_cons (pv 2) pa_nil))))))), ?_⟩
    refine ⟨_, rfl, _, rfl, a, _, dx, _, _, rfl, X.st, T.cl_State, T.n_State_minute, sF_minute s bl ql, _, _, rfl, rfl, _, rfl, ?_⟩
    by_cases c0 : t < s.time
    · refine iteD (by omega) (iteT ⟨(by show 1 ≤ sizeLine; decide), fun p hp => ?_⟩)
      exact refuse S Y q (Same.refl _) (by simp only [Km439.act, if_pos (show t < s.time ∨ Km439.LATEST < t from .inl c0)]) hp
    refine iteDn (by omega) ?_
    refine ⟨_, rfl, _, _, rfl, rfl, _, rfl, ?_⟩
    by_cases c1 : Km439.LATEST < t
    · refine iteD (by unfold Km439.LATEST at c1; omega) ⟨(by show 1 ≤ sizeLine; decide), fun p hp => ?_⟩
      exact refuse S Y q (Same.refl _) (by simp only [Km439.act, if_pos (show t < s.time ∨ Km439.LATEST < t from .inr c1)]) hp
    refine iteDn (by unfold Km439.LATEST at c1; omega) ?_
    refine ⟨_, rfl, a, _, dx, _, _, rfl, X.st, T.cl_State, T.n_State_sail, sF_sail s bl ql, ?_⟩
    refine ⟨_, rfl, _, rfl, a, _, dx, _, rfl, X.st, T.cl_State, T.n_State_sail, (by show 9 < 1000; decide), ?_⟩
    refine ⟨_, rfl, (by show 1 ≤ sizeLine; decide), fun p hp => ?_⟩
    have Z := X.setS (s' := { s with sail := t }) rfl rfl
    have e2 : putF "sail" (.int ((t : Nat) : Int)) (sF s bl ql) = sF { s with sail := t } bl ql := by rw [sF_put_sail]; rfl
    rw [← e2] at Z
    exact doneC q (s' := { s with sail := t }) (an := Km439.only ((s.sail : Nat) : Int)) (by simp only [Km439.act, if_neg (show ¬ (t < s.time ∨ Km439.LATEST < t) from fun z => z.elim c0 c1)]) (Same.put S X.oa _) Z.at_ hp rfl
def sp_bs_go (K : PySem.W.Frag) (A : Ad) : Sp := fun vs H Q _ => ∃ (a : Addr) (k : Nat), vs = [.ref a, .int k] ∧ Chg A H a (.go k) Q
theorem ok_bs_go (T : Txt K mg A) : FnOk P w K mg base CX0 2 A.f_bs_go A.d_bs_go P_bs_go (sp_bs_go K A) := by
  refine T.F_bs_go.ok sc_bs_go (fun vs H Q E h => ?_) (fun cdv Ar outer s0 H vs Q E hr h => ?_)
  · obtain ⟨a, k, rfl, _⟩ := h
    rfl
  · obtain ⟨a, k, rfl, H0, s, S, Y, W, q⟩ := h
    obtain ⟨dx, bl, ql, as, ts, X⟩ := id Y
    refine ⟨_, (pss_cons (ps_if (pt_not (pt_val (pe_meth (pv 0) T.cl_State T.m_State_has_boat (ok_State_has_boat T) (hr.mono (by decide)) (b_State_has_boat T) .nil pass0 (pa_cons (pv 1) pa_nil)))) (pss_one (ps_ret (pe_lst (pa_cons (pe_gi (by rfl) T.i_NONE_THERE) pa_nil)))) pss_nil)
        (pss_cons (ps_set (i := 2) sc_bs_go.nd rfl (by first | exact Or.inl rfl | exact Or.inr rfl) (pe_ix ix_list (pe_fld (pv 0) rfl) (pv 1) (fun _ _ => rfl)))
        (pss_cons (ps_if (pt_val (pe_meth0 (pv 2) T.cl_Boat T.m_Boat_is_on_its_way (ok_Boat_is_on_its_way T) (hr.mono (by decide)) (b_Boat_is_on_its_way T) .nil pass0)) (pss_one (ps_ret (pe_lst (pa_cons (pe_gi (by rfl) T.i_NOT_AS_IT_LIES) pa_nil)))) pss_nil)
        (pss_cons (ps_if (pt_not (pt_val (pe_meth (pv 0) T.cl_State T.m_State_may_go (ok_State_may_go T) (hr.mono (by decide)) (b_State_may_go T) .nil pass0 (pa_cons (pv 2) pa_nil)))) (pss_one (ps_ret (pe_lst (pa_cons (pe_gi (by rfl) T.i_MAY_NOT_GO) pa_nil)))) pss_nil)
        (pss_cons (ps_if (pt_cmpR op_eq (pe_fld (pv 0) rfl) (pe_gi (by rfl) T.i_MOST_TIMES_GONE) (nomark _)) (pss_one (ps_ret (pe_lst (pa_cons (pe_gi (by rfl) T.i_NO_MORE) pa_nil)))) pss_nil)
        (pss_cons (ps_fldaug (pv 0) pe_int in_add)
        (pss_cons (ps_fld (pv 2) (pe_not (pe_fld (pv 2) rfl)) rfl)
        (pss_cons (ps_fld (pv 2) (pe_fld (pv 2) rfl) rfl)
        (pss_one (ps_ret (pe_lst (pa_cons (pe_op op_add (pe_fld (pv 0) rfl) (pe_fld (pv 2) rfl)) pa_nil)))))))))))), ?_⟩
    refine ⟨_, rfl, a, dx, _, rfl, X.st, sF_no_has_boat s bl ql, _, rfl, a, k, s, fr H0, rfl, Y, _, rfl, ?_⟩
    cases e : s.boats[k]? with
    | none =>
      refine iteN (not_lt_get e) ⟨(by show 1 ≤ sizeLine; decide), fun p hp => ?_⟩
      exact refuse S Y q (Same.refl _) (by simp only [Km439.act, e]) hp
    | some b =>
      obtain ⟨x, hx, Yb⟩ := X.boat e
      obtain ⟨d, eb⟩ := id Yb
      refine iteNS (lt_of_get e) ?_
      refine ⟨_, rfl, a, _, dx, _, _, rfl, X.st, T.cl_State, T.n_State_boats, sF_boats s bl ql, _, rfl, bl, _, _, _, rfl, rfl, SqL.of X.bs, at_of rfl (get_ref hx), ?_⟩
      refine ⟨_, rfl, x, d, _, rfl, eb, bF_no_is_on_its_way b, x, b, rfl, Yb, _, rfl, ?_⟩
      by_cases c2 : b.left ≠ 0
      · refine iteD (by omega) ⟨(by show 1 ≤ sizeLine; decide), fun p hp => ?_⟩
        exact refuse S Y q (Same.refl _) (by simp only [Km439.act, e, if_pos c2]) hp
      refine iteDn (by omega) ?_
      refine ⟨_, rfl, a, dx, _, rfl, X.st, sF_no_may_go s bl ql, _, rfl, a, x, s, b, fr H0, rfl, Y, Yb, _, rfl, ?_⟩
      by_cases c3 : s.may b = false
      · refine iteBn c3 ⟨(by show 1 ≤ sizeLine; decide), fun p hp => ?_⟩
        exact refuse S Y q (Same.refl _) (by simp only [Km439.act, e, if_neg c2, if_pos c3]) hp
      refine iteBs (by cases z : s.may b with | true => rfl | false => exact absurd z c3) ?_
      refine ⟨_, rfl, a, _, dx, _, _, rfl, X.st, T.cl_State, T.n_State_times_gone, sF_times_gone s bl ql, rfl, _, rfl, ?_⟩
      have wy := W.wy
      by_cases c4 : Km439.LATEST ≤ s.ways
      · refine iteD (by unfold Km439.LATEST at c4; rw [show s.ways = 100000 by omega]; rfl) ⟨(by show 1 ≤ sizeLine; decide), fun p hp => ?_⟩
        exact refuse S Y q (Same.refl _) (by simp only [Km439.act, e, if_neg c2, if_neg c3, if_pos c4]) hp
      refine iteDn (by unfold Km439.LATEST at c4; intro z; have z := V.int.inj z; omega) ?_
      -- state.times_gone += 1
      refine ⟨_, rfl, a, _, dx, _, _, rfl, X.st, T.cl_State, T.n_State_times_gone, sF_times_gone s bl ql, _, _, rfl, rfl, dx, _, X.st, (by show 9 < 1000; decide), ?_⟩
      have e1 : putF "times_gone" (.int (((s.ways : Nat) : Int) + 1)) (sF s bl ql) = sF { s with ways := s.ways + 1 } bl ql := by rw [sF_put_times_gone]; rfl
      rw [e1]
      have X1 := X.setS (s' := { s with ways := s.ways + 1 }) rfl rfl
      have S1 : Same H0 (upd H a (.ins A.c_State dx (sF { s with ways := s.ways + 1 } bl ql))) := Same.put S X.oa _
      have eb1 : (upd H a (.ins A.c_State dx (sF { s with ways := s.ways + 1 } bl ql))) x = some (.ins A.c_Boat d (bF b)) := by rw [upd_ne (X.nas hx).symm]; exact eb
      -- boat.to_shore = not boat.to_shore
      refine ⟨_, rfl, x, _, d, _, _, rfl, eb1, T.cl_Boat, T.n_Boat_to_shore, bF_to_shore b, _, rfl, _, rfl, x, _, d, _, rfl, eb1, T.cl_Boat, T.n_Boat_to_shore, (by show 6 < 1000; decide), ?_⟩
      have e2 : putF "to_shore" (.bl (!b.shore)) (bF b) = bF { b with shore := !b.shore } := by rw [bF_put_to_shore]; rfl
      rw [e2]
      have X2 := X1.setB (b' := { b with shore := !b.shore }) hx e eb1
      have S2 := Same.put S1 (X.os x (List.mem_of_getElem? hx)) (.ins A.c_Boat d (bF { b with shore := !b.shore }))
      -- boat.minutes_left = boat.way
      refine ⟨_, rfl, x, _, d, _, _, rfl, upd_same, T.cl_Boat, T.n_Boat_way, bF_way _, _, rfl, x, _, d, _, rfl, upd_same, T.cl_Boat, T.n_Boat_minutes_left, (by show 6 < 1000; decide), ?_⟩
      have e3 : putF "minutes_left" (.int ((b.way : Nat) : Int)) (bF { b with shore := !b.shore }) = bF { b with shore := !b.shore, left := b.way } := by rw [bF_put_minutes_left]; rfl
      rw [e3]
      have X3 := X2.setB (b' := { b with shore := !b.shore, left := b.way }) hx (List.getElem?_set_self (lt_of_get e)) upd_same
      have S3 := Same.put S2 (X.os x (List.mem_of_getElem? hx)) (.ins A.c_Boat d (bF { b with shore := !b.shore, left := b.way }))
      refine ⟨_, rfl, a, _, dx, _, _, rfl, X3.st, T.cl_State, T.n_State_minute, sF_minute _ bl ql, _, rfl, x, _, d, _, _, rfl, upd_same, T.cl_Boat, T.n_Boat_way, bF_way _, _, _, rfl, rfl, (by show 1 ≤ sizeLine; decide), fun p hp => ?_⟩
      refine doneC q (s' := { s.set k { b with shore := !b.shore, left := b.way } with ways := s.ways + 1 }) (an := Km439.only ((s.time + b.way : Nat) : Int)) (by simp only [Km439.act, e, if_neg c2, if_neg c3, if_neg c4]) S3 ?_ hp rfl
      have es : (({ s with ways := s.ways + 1 } : Km439.Sea).set k { b with shore := !b.shore }).set k { b with shore := !b.shore, left := b.way } = { s.set k { b with shore := !b.shore, left := b.way } with ways := s.ways + 1 } := by
        show ({ s with ways := s.ways + 1, boats := (s.boats.set k { b with shore := !b.shore }).set k { b with shore := !b.shore, left := b.way } } : Km439.Sea) = _
        rw [List.set_set]
        rfl
      rw [es] at X3
      exact X3.at_
end
end Bts

end
section
set_option Elab.async false
set_option linter.all false
set_option maxRecDepth 100000
set_option maxHeartbeats 4000000
namespace Bts
open PySem PySem.Spec PyProof.Rows L2
section
variable {P : Program} {w : World} {K : PySem.W.Frag} {mg : Str → Option Value} {base : Heap} {A : Ad}
theorem StX.notin {ok : Addr → Prop} {H : Hp} {a dx bl ql x : Addr} {as ts : List Addr} {s : Km439.Sea} (X : StX A ok H a dx bl ql as ts s) (h : H x = none) : ¬ x ∈ as := fun hm => by
  obtain ⟨i, hi⟩ := List.getElem?_of_mem hm
  obtain ⟨b, _, d, e⟩ := X.of hi
  rw [h] at e
  cases e
def sp_bs_boat (K : PySem.W.Frag) (A : Ad) : Sp := fun vs H Q _ => ∃ (a : Addr) (n w v : Nat), vs = [.ref a, .int n, .int w, .int v] ∧ Chg A H a (.boat n w v) Q
theorem ok_bs_boat (T : Txt K mg A) : FnOk P w K mg base CX0 3 A.f_bs_boat A.d_bs_boat P_bs_boat (sp_bs_boat K A) := by
  refine T.F_bs_boat.ok sc_bs_boat (fun vs H Q E h => ?_) (fun cdv Ar outer s0 H vs Q E hr h => ?_)
  · obtain ⟨a, n, w', v, rfl, _⟩ := h
    rfl
  · obtain ⟨a, n, w', v, rfl, H0, s, S, Y, W, q⟩ := h
    obtain ⟨dx, bl, ql, as, ts, X⟩ := id Y
    have R : (n = 0 ∨ 200 < n ∨ w' = 0 ∨ 60 < w' ∨ 9 < v) → ∀ p, H p = none → Q (.ref p) (upd H p (.lst [.int (-22)])) := fun c p hp => refuse S Y q (Same.refl _) (by simp only [Km439.act, if_pos c]) hp
    refine ⟨_, (pss_cons (ps_if (pt_not (PW.pt (pw_and (pt_chain op_le op_le pe_int (pv 1) (pe_gi (by rfl) T.i_MOST_SEATS)) (pw_and (pt_chain op_le op_le pe_int (pv 2) (pe_gi (by rfl) T.i_MOST_WAY)) (pw_and1 (pt_cmpR op_le (pv 3) (pe_gi (by rfl) T.i_MOST_SWELL) (nomark _))))))) (pss_one (ps_ret (pe_lst (pa_cons (pe_gi (by rfl) T.i_WRONG) pa_nil)))) pss_nil)
        (pss_cons (ps_if (pt_cmpR op_eq (pe_callB call_len_seq (by rfl) T.z_len PySem.boot_len (pa_cons (pe_fld (pv 0) rfl) pa_nil)) (pe_gi (by rfl) T.i_MOST_BOATS) (nomark _)) (pss_one (ps_ret (pe_lst (pa_cons (pe_gi (by rfl) T.i_NO_MORE) pa_nil)))) pss_nil)
        (pss_cons (ps_expr (pe_bm PySem.F.plainAttrs_list PySem.F.slot_list_append PySem.F.type_list_append mt_append (pe_fld (pv 0) rfl) (pa_cons (pe_make T.mk_Boat (ok_Boat_init T) (hr.mono (by decide)) rfl T.g_Boat (b_Boat_init T) .nil pass0 (pa_cons (pv 1) (pa_cons (pv 2) (pa_cons (pv 3) pa_nil)))) pa_nil)))
        (pss_one (ps_ret (pe_lst (pa_cons (pe_op op_sub (pe_callB call_len_seq (by rfl) T.z_len PySem.boot_len (pa_cons (pe_fld (pv 0) rfl) pa_nil)) pe_int) pa_nil))))))), ?_⟩
    refine ⟨_, rfl, _, _, rfl, rfl, _, rfl, ?_⟩
    by_cases a1 : n = 0
    · exact iteDn (by omega) ⟨_, rfl, iteF (iteT ⟨(by show 1 ≤ sizeLine; decide), R (by omega)⟩)⟩
    refine iteD (by omega) ⟨_, _, rfl, rfl, _, rfl, ?_⟩
    by_cases a2 : 200 < n
    · exact iteDn (by omega) (iteT ⟨(by show 1 ≤ sizeLine; decide), R (by omega)⟩)
    refine iteD (by omega) ⟨_, rfl, _, _, rfl, rfl, _, rfl, ?_⟩
    by_cases a3 : w' = 0
    · exact iteDn (by omega) ⟨_, rfl, iteF (iteT ⟨(by show 1 ≤ sizeLine; decide), R (by omega)⟩)⟩
    refine iteD (by omega) ⟨_, _, rfl, rfl, _, rfl, ?_⟩
    by_cases a4 : 60 < w'
    · exact iteDn (by omega) (iteT ⟨(by show 1 ≤ sizeLine; decide), R (by omega)⟩)
    refine iteD (by omega) ⟨_, rfl, _, _, rfl, rfl, _, rfl, ?_⟩
    by_cases a5 : 9 < v
    · exact iteN (by omega) ⟨(by show 1 ≤ sizeLine; decide), R (by omega)⟩
    refine iteNS (by omega) ?_
    have c1 : ¬ (n = 0 ∨ 200 < n ∨ w' = 0 ∨ 60 < w' ∨ 9 < v) := by omega
    refine ⟨_, rfl, a, _, dx, _, _, rfl, X.st, T.cl_State, T.n_State_boats, sF_boats s bl ql, bl, _, rfl, .inl (SqL.of X.bs), rfl, _, rfl, ?_⟩
    have nb := W.nb
    have bn := X.bn
    by_cases c2 : Km439.BOATS ≤ s.boats.length
    · unfold Km439.BOATS at c2
      refine iteD (by rw [List.length_map, show as.length = 4 by omega]; rfl) ⟨(by show 1 ≤ sizeLine; decide), fun p hp => ?_⟩
      exact refuse S Y q (Same.refl _) (by simp only [Km439.act, if_neg c1, if_pos (show Km439.BOATS ≤ s.boats.length from c2)]) hp
    have c2' : ¬ 4 ≤ s.boats.length := c2
    refine iteDn (by intro z; have z := V.int.inj z; rw [List.length_map] at z; omega) ?_
    refine ⟨_, rfl, a, _, dx, _, _, rfl, X.st, T.cl_State, T.n_State_boats, sF_boats s bl ql, .inl ⟨rfl, _, SqL.of X.bs⟩, _, rfl, _, rfl, _, rfl, fun x d nx nd nn => ⟨x, d, n, w', v, rfl, upd_same, fun H1 e1 k1 => ⟨rfl, ?_⟩⟩⟩
    have S1 : Same H H1 := Same.made nx nd k1
    have X1 := X.same S1
    refine ⟨bl, _, _, rfl, rfl, X1.bs, (by rw [List.length_map]; exact small10 (by omega)), ?_⟩
    have em : as.map V.ref ++ [V.ref x] = (as ++ [x]).map V.ref := by rw [List.map_append]; rfl
    rw [em]
    have X2 := X1.addB e1 (X.notin nx) (S.free nx)
    refine ⟨_, rfl, a, _, dx, _, _, rfl, X2.st, T.cl_State, T.n_State_boats, sF_boats _ bl ql, bl, _, rfl, .inl (SqL.of X2.bs), _, _, rfl, rfl, (by show 1 ≤ sizeLine; decide), fun p hp => ?_⟩
    refine doneC q (s' := { s with boats := s.boats ++ [⟨n, w', v, 0, false, 0⟩] }) (an := Km439.only ((s.boats.length : Nat) : Int)) (by simp only [Km439.act, if_neg c1, if_neg c2]) (Same.put (S.trans S1) X.ob _) X2.at_ hp ?_
    show [V.int (((((as ++ [x]).map V.ref).length : Nat) : Int) - 1)] = [V.int ((s.boats.length : Nat) : Int)]
    rw [List.length_map, List.length_append, List.length_singleton, ← bn]
    congr 2
    omega
def sp_bs_ticket (K : PySem.W.Frag) (A : Ad) : Sp := fun vs H Q _ => ∃ (a : Addr) (n : Nat), vs = [.ref a, .int n] ∧ Chg A H a (.ticket n) Q
theorem ok_bs_ticket (T : Txt K mg A) : FnOk P w K mg base CX0 3 A.f_bs_ticket A.d_bs_ticket P_bs_ticket (sp_bs_ticket K A) := by
  refine T.F_bs_ticket.ok sc_bs_ticket (fun vs H Q E h => ?_) (fun cdv Ar outer s0 H vs Q E hr h => ?_)
  · obtain ⟨a, n, rfl, _⟩ := h
    rfl
  · obtain ⟨a, n, rfl, H0, s, S, Y, W, q⟩ := h
    obtain ⟨dx, bl, ql, as, ts, X⟩ := id Y
    have R : (n = 0 ∨ 200 < n) → ∀ p, H p = none → Q (.ref p) (upd H p (.lst [.int (-22)])) := fun c p hp => refuse S Y q (Same.refl _) (by simp only [Km439.act, if_pos c]) hp
    refine ⟨_, (pss_cons (ps_if (pt_not (pt_chain op_le op_le pe_int (pv 1) (pe_gi (by rfl) T.i_MOST_IN_GROUP))) (pss_one (ps_ret (pe_lst (pa_cons (pe_gi (by rfl) T.i_WRONG) pa_nil)))) pss_nil)
        (pss_cons (ps_if (pt_cmpR op_lt (pe_meth0 (pv 0) T.cl_State T.m_State_free_on_ship (ok_State_free_on_ship T) (hr.mono (by decide)) (b_State_free_on_ship T) .nil pass0) (pv 1) (nomark _)) (pss_one (ps_ret (pe_lst (pa_cons (pe_gi (by rfl) T.i_TOO_FEW) pa_nil)))) pss_nil)
        (pss_cons (ps_if (PW.pt (pw_or (pt_cmpR op_eq (pe_callB call_len_seq (by rfl) T.z_len PySem.boot_len (pa_cons (pe_fld (pv 0) rfl) pa_nil)) (pe_gi (by rfl) T.i_MOST_GROUPS) (nomark _)) (pw_or1 (pt_cmpR op_eq (pe_fld (pv 0) rfl) (pe_gi (by rfl) T.i_MOST_TICKETS) (nomark _))))) (pss_one (ps_ret (pe_lst (pa_cons (pe_gi (by rfl) T.i_NO_MORE) pa_nil)))) pss_nil)
        (pss_cons (ps_set (i := 2) sc_bs_ticket.nd rfl (by first | exact Or.inl rfl | exact Or.inr rfl) (pe_fld (pv 0) rfl))
        (pss_cons (ps_expr (pe_bm PySem.F.plainAttrs_list PySem.F.slot_list_append PySem.F.type_list_append mt_append (pe_fld (pv 0) rfl) (pa_cons (pe_tup (pa_cons (pv 2) (pa_cons (pv 1) pa_nil))) pa_nil)))
        (pss_cons (ps_fldaug (pv 0) pe_int in_add)
        (pss_one (ps_ret (pe_lst (pa_cons (pv 2) pa_nil)))))))))), ?_⟩
    refine ⟨_, rfl, _, _, rfl, rfl, _, rfl, ?_⟩
    by_cases a1 : n = 0
    · exact iteDn (by omega) ⟨_, rfl, iteT ⟨(by show 1 ≤ sizeLine; decide), R (by omega)⟩⟩
    refine iteD (by omega) ⟨_, _, rfl, rfl, _, rfl, ?_⟩
    by_cases a2 : 200 < n
    · exact iteN (by omega) ⟨(by show 1 ≤ sizeLine; decide), R (by omega)⟩
    refine iteNS (by omega) ?_
    have c1 : ¬ (n = 0 ∨ 200 < n) := by omega
    refine ⟨_, rfl, a, dx, _, rfl, X.st, sF_no_free_on_ship s bl ql, a, s, fr H0, rfl, Y, W, fun H1 S1 => ⟨_, rfl, _, _, rfl, rfl, _, rfl, ?_⟩⟩
    by_cases c2 : s.ship < Km439.persons s.queue + n
    · refine iteD (by omega) ⟨(by show 1 ≤ sizeLine; decide), fun p hp => ?_⟩
      exact refuse S Y q S1 (by simp only [Km439.act, if_neg c1, if_pos c2]) hp
    refine iteDn (by omega) ?_
    have X1 := X.same S1
    have nq := W.nq
    have qn := X.qn
    have tk := W.tk
    refine ⟨_, rfl, a, _, dx, _, _, rfl, X1.st, T.cl_State, T.n_State_groups, sF_groups s bl ql, ql, _, rfl, .inl (SqL.of X1.qs), rfl, _, rfl, ?_⟩
    by_cases c3 : Km439.GROUPS ≤ s.queue.length
    · have c3' : 10 ≤ s.queue.length := c3
      refine iteD (by rw [List.length_map, show ts.length = 10 by omega]; rfl) (iteT ⟨(by show 1 ≤ sizeLine; decide), fun p hp => ?_⟩)
      exact refuse S Y q S1 (by simp only [Km439.act, if_neg c1, if_neg c2, if_pos (show Km439.GROUPS ≤ s.queue.length ∨ Km439.LATEST ≤ s.tickets from .inl c3)]) hp
    have c3' : ¬ 10 ≤ s.queue.length := c3
    refine iteDn (by intro z; have z := V.int.inj z; rw [List.length_map] at z; omega) ?_
    refine ⟨_, rfl, a, _, dx, _, _, rfl, X1.st, T.cl_State, T.n_State_tickets_given, sF_tickets_given s bl ql, rfl, _, rfl, ?_⟩
    by_cases c4 : Km439.LATEST ≤ s.tickets
    · have c4' : 100000 ≤ s.tickets := c4
      refine iteD (by rw [show s.tickets = 100000 by omega]; rfl) ⟨(by show 1 ≤ sizeLine; decide), fun p hp => ?_⟩
      exact refuse S Y q S1 (by simp only [Km439.act, if_neg c1, if_neg c2, if_pos (show Km439.GROUPS ≤ s.queue.length ∨ Km439.LATEST ≤ s.tickets from .inr c4)]) hp
    have c4' : ¬ 100000 ≤ s.tickets := c4
    refine iteDn (by intro z; have z := V.int.inj z; omega) ?_
    refine ⟨_, rfl, a, _, dx, _, _, rfl, X1.st, T.cl_State, T.n_State_tickets_given, sF_tickets_given s bl ql, ?_⟩
    refine ⟨_, rfl, a, _, dx, _, _, rfl, X1.st, T.cl_State, T.n_State_groups, sF_groups s bl ql, .inl ⟨rfl, _, SqL.of X1.qs⟩, _, rfl, _, rfl, (by show 2 ≤ sizeLine; decide), fun t ht => ?_⟩
    have X2 := X1.same (Same.new ht (.tup [.int (s.tickets : Nat), .int (n : Nat)]))
    refine ⟨ql, _, _, rfl, rfl, X2.qs, (by rw [List.length_map]; exact small10 (by omega)), ?_⟩
    have em : ts.map V.ref ++ [V.ref t] = (ts ++ [t]).map V.ref := by rw [List.map_append]; rfl
    rw [em]
    have X3 := X2.addQ (k := s.tickets) (n := n) upd_same
    refine ⟨_, rfl, a, _, dx, _, _, rfl, X3.st, T.cl_State, T.n_State_tickets_given, sF_tickets_given _ bl ql, _, _, rfl, rfl, dx, _, X3.st, (by show 9 < 1000; decide), ?_⟩
    refine ⟨_, rfl, (by show 1 ≤ sizeLine; decide), fun p hp => ?_⟩
    have Z := X3.setS (s' := { s with queue := s.queue ++ [(s.tickets, n)], tickets := s.tickets + 1 }) rfl rfl
    have e2 : putF "tickets_given" (.int (((s.tickets : Nat) : Int) + 1)) (sF { s with queue := s.queue ++ [(s.tickets, n)] } bl ql) = sF { s with queue := s.queue ++ [(s.tickets, n)], tickets := s.tickets + 1 } bl ql := by rw [sF_put_tickets_given]; rfl
    rw [← e2] at Z
    exact doneC q (s' := { s with queue := s.queue ++ [(s.tickets, n)], tickets := s.tickets + 1 }) (an := Km439.only ((s.tickets : Nat) : Int)) (by simp only [Km439.act, if_neg c1, if_neg c2, if_neg (show ¬ (Km439.GROUPS ≤ s.queue.length ∨ Km439.LATEST ≤ s.tickets) from fun z => z.elim c3 c4)])
      (Same.put (Same.put ((S.trans S1).trans (Same.new ht _)) X.oq _) X.oa _) Z.at_ hp rfl
/-- groups in a list -/
structure GrAt (H : Hp) (q : Addr) (ts : List Addr) (l : List (Nat × Nat)) : Prop where
  lst : H q = some (.lst (ts.map V.ref))
  n : ts.length = l.length
  at_ : ∀ (i : Nat) (t : Addr) (x : Nat × Nat), ts[i]? = some t → l[i]? = some x → H t = some (.tup [.int (x.1 : Nat), .int (x.2 : Nat)])
theorem GrAt.same {H H' : Hp} {q : Addr} {ts : List Addr} {l : List (Nat × Nat)} (G : GrAt H q ts l) (S : Same H H') : GrAt H' q ts l := ⟨S _ _ G.lst, G.n, fun i t x h1 h2 => S _ _ (G.at_ i t x h1 h2)⟩
theorem StX.grAt {ok : Addr → Prop} {H : Hp} {a dx bl ql : Addr} {as ts : List Addr} {s : Km439.Sea} (X : StX A ok H a dx bl ql as ts s) : GrAt H ql ts s.queue := ⟨X.qs, X.qn, X.gr⟩
theorem cut_take (xs : List V) (c : Nat) : cutV xs none (some (c : Int)) = xs.take c := by
  unfold cutV
  rw [HT.sIx_none, HT.sIx_nat, List.drop_zero, Nat.sub_zero]
  by_cases h : c ≤ xs.length
  · rw [Nat.min_eq_left h]
  · rw [Nat.min_eq_right (by omega), List.take_length, List.take_of_length_le (by omega)]
theorem cut_drop (xs : List V) (c : Nat) (h : c ≤ xs.length) : cutV xs (some (c : Int)) none = xs.drop c := by
  unfold cutV
  rw [HT.sIx_none, HT.sIx_nat, Nat.min_eq_left h]
  exact List.take_of_length_le (by rw [List.length_drop]; omega)
def sp_persons_of_first (K : PySem.W.Frag) (A : Ad) : Sp := fun vs H Q _ => ∃ (q : Addr) (ts : List Addr) (l : List (Nat × Nat)) (c : Nat), vs = [.ref q, .int c] ∧ GrAt H q ts l ∧ l.length ≤ 10 ∧ ∀ H', Same H H' → Q (.int (Km439.persons (l.take c) : Nat)) H'
theorem ok_persons_of_first (T : Txt K mg A) : FnOk P w K mg base CX0 1 A.f_persons_of_first A.d_persons_of_first P_persons_of_first (sp_persons_of_first K A) := by
  refine T.F_persons_of_first.ok sc_persons_of_first (fun vs H Q E h => ?_) (fun cdv Ar outer s0 H vs Q E hr h => ?_)
  · obtain ⟨q, ts, l, c, rfl, _⟩ := h
    rfl
  · obtain ⟨q, ts, l, c, rfl, G, hl, k⟩ := h
    refine ⟨_, (pss_one (ps_ret (pe_callB (cr_sum rfl) (by rfl) T.z_sum PyProof.Rows.boot_sum (pa_cons (pe_lc rfl sc_persons_of_first.nd (pi_list (pe_slice sl_list (pv 0) po_none (po_some (pv 1)))) (blkOk_by (N := N_persons_of_first) (sc := defScope s_persons_of_first) (own := [("ticket", 2), ("persons", 3)]) (by decide +kernel)) (fun _ _ _ _ _ => (pg_tupK (K := K) (n := 2) rfl rfl (pgs_cons (pg_name (i := 2) sc_persons_of_first.nd rfl (by first | exact Or.inl rfl | exact Or.inr rfl)) (pgs_cons (pg_name (i := 3) sc_persons_of_first.nd rfl (by first | exact Or.inl rfl | exact Or.inr rfl)) pgs_nil)))) (fun _ _ _ _ _ => pts_nil) (fun _ _ _ _ _ => (pv 3))) pa_nil)))), ?_⟩
    refine ⟨_, rfl, _, rfl, _, rfl, q, _, rfl, SqL.of G.lst, fun p hp => ⟨p, rfl, ⟨_, SqL.of upd_same⟩, ?_⟩⟩
    have S1 := Same.new hp (.lst (cutV (ts.map V.ref) none (some (c : Int))))
    have ex : cutV (ts.map V.ref) none (some (c : Int)) = (ts.take c).map V.ref := by rw [cut_take, List.map_take]
    have sq : SqL K (upd H p (.lst (cutV (ts.map V.ref) none (some (c : Int))))) p ((ts.take c).map V.ref) := SqL.of (by rw [upd_same, ex])
    refine lc_map (items := l.take c) (p := fun _ => true) (f := fun q => V.int (q.2 : Nat)) sq (by rw [List.length_map, List.length_take, List.length_take, G.n]) (small10 (by rw [List.length_take]; omega)) ?_ ?_
    · intro i x g H' hi hg S R N hR hN
      obtain ⟨t, ht, rfl⟩ := map_ref_at hi
      have hic : i < c := by have := lt_of_get ht; rw [List.length_take] at this; omega
      rw [List.getElem?_take_of_lt hic] at ht hg
      exact ⟨t, _, rfl, SqT.of (S _ _ (S1 _ _ (G.at_ i t g ht hg))), rfl, _, _, rfl, _, _, rfl, rfl, rfl, _, rfl, hR rfl _ (Same.refl _)⟩
    · intro D H' S hD hD'
      refine ⟨D, _, rfl, SqL.of (by rw [hD', map_int]), ?_⟩
      rw [persons_int]
      exact k H' (S1.trans S)
def sp_groups_that_fit (K : PySem.W.Frag) (A : Ad) : Sp := fun vs H Q _ => ∃ (q : Addr) (ts : List Addr) (l : List (Nat × Nat)) (r : Nat), vs = [.ref q, .int r] ∧ GrAt H q ts l ∧ l.length ≤ 10 ∧ ∀ H', Same H H' → Q (.int (Km439.called l r : Nat)) H'
theorem ok_groups_that_fit (T : Txt K mg A) : FnOk P w K mg base CX0 2 A.f_groups_that_fit A.d_groups_that_fit P_groups_that_fit (sp_groups_that_fit K A) := by
  refine T.F_groups_that_fit.ok sc_groups_that_fit (fun vs H Q E h => ?_) (fun cdv Ar outer s0 H vs Q E hr h => ?_)
  · obtain ⟨q, ts, l, r, rfl, _⟩ := h
    rfl
  · obtain ⟨q, ts, l, r, rfl, G, hl, k⟩ := h
    refine ⟨_, (pss_cons (ps_set (i := 2) sc_groups_that_fit.nd rfl (by first | exact Or.inl rfl | exact Or.inr rfl) pe_int)
        (pss_cons (ps_while PassesOwn.never (PW.pt (pw_and (pt_cmpR op_lt (pv 2) (pe_callB call_len_seq (by rfl) T.z_len PySem.boot_len (pa_cons (pv 0) pa_nil)) (nomark _)) (pw_and1 (pt_cmpR op_le (pe_call (ok_persons_of_first T) (hr.mono (by decide)) rfl T.g_persons_of_first T.F_persons_of_first.kp (b_persons_of_first T) .nil pass0 (pa_cons (pv 0) (pa_cons (pe_op op_add (pv 2) pe_int) pa_nil))) (pv 1) (nomark _))))) (pss_one (ps_aug (i := 2) sc_groups_that_fit.nd rfl (by first | exact Or.inl rfl | exact Or.inr rfl) pe_int ip_add)))
        (pss_one (ps_ret (pv 2))))), ?_⟩
    refine ⟨fun m σ H' => ∃ c : Nat, σ = [some (.ref q), some (.int (r : Nat)), some (.int (c : Nat))] ∧ c ≤ l.length ∧ Km439.persons (l.take c) ≤ r ∧ m = l.length - c ∧ Same H H', ⟨l.length, 0, rfl, Nat.zero_le _, Nat.zero_le _, rfl, Same.refl _⟩, ?_⟩
    rintro m σ H' ⟨c, rfl, hc, hp, rfl, S⟩
    have G1 := G.same S
    refine ⟨_, rfl, _, rfl, q, _, rfl, .inl (SqL.of G1.lst), _, _, rfl, rfl, _, rfl, ?_⟩
    by_cases c1 : c < l.length
    · refine iteD (by rw [List.length_map, G.n]; omega) ?_
      refine ⟨_, rfl, _, rfl, _, _, rfl, rfl, q, ts, l, c + 1, rfl, G1, hl, fun H2 S2 => ⟨_, rfl, _, _, rfl, rfl, _, rfl, ?_⟩⟩
      by_cases c2 : Km439.persons (l.take (c + 1)) ≤ r
      · refine iteD (by omega) ⟨_, fun σ' H3 h3 => h3, ?_⟩
        exact ⟨_, rfl, _, _, rfl, rfl, l.length - (c + 1), (by omega), c + 1, rfl, (by omega), c2, rfl, S.trans S2⟩
      · refine iteDn (by omega) ?_
        refine ⟨_, rfl, ?_⟩
        rw [← called_stop l r c hc hp (fun _ => by omega)]
        exact k _ (S.trans S2)
    · refine iteDn (by rw [List.length_map, G.n]; omega) (iteF ?_)
      refine ⟨_, rfl, ?_⟩
      rw [← called_stop l r c hc hp (fun z => absurd z c1)]
      exact k _ S
end
end Bts

end
section
set_option Elab.async false
set_option linter.all false
set_option maxRecDepth 100000
set_option maxHeartbeats 4000000
namespace Bts
open PySem PySem.Spec PyProof.Rows L2
section
variable {P : Program} {w : World} {K : PySem.W.Frag} {mg : Str → Option Value} {base : Heap} {A : Ad}
def sp_bs_call (K : PySem.W.Frag) (A : Ad) : Sp := fun vs H Q _ => ∃ (a : Addr) (k : Nat), vs = [.ref a, .int k] ∧ Chg A H a (.call_ k) Q
theorem ok_bs_call (T : Txt K mg A) : FnOk P w K mg base CX0 3 A.f_bs_call A.d_bs_call P_bs_call (sp_bs_call K A) := by
  refine T.F_bs_call.ok sc_bs_call (fun vs H Q E h => ?_) (fun cdv Ar outer s0 H vs Q E hr h => ?_)
  · obtain ⟨a, k, rfl, _⟩ := h
    rfl
  · obtain ⟨a, k, rfl, H0, s, S, Y, W, q⟩ := h
    obtain ⟨dx, bl, ql, as, ts, X⟩ := id Y
    refine ⟨_, (pss_cons (ps_if (pt_not (pt_val (pe_meth (pv 0) T.cl_State T.m_State_has_boat (ok_State_has_boat T) (hr.mono (by decide)) (b_State_has_boat T) .nil pass0 (pa_cons (pv 1) pa_nil)))) (pss_one (ps_ret (pe_lst (pa_cons (pe_gi (by rfl) T.i_NONE_THERE) pa_nil)))) pss_nil)
        (pss_cons (ps_set (i := 2) sc_bs_call.nd rfl (by first | exact Or.inl rfl | exact Or.inr rfl) (pe_ix ix_list (pe_fld (pv 0) rfl) (pv 1) (fun _ _ => rfl)))
        (pss_cons (ps_if (PW.pt (pw_or (pt_val (pe_meth0 (pv 2) T.cl_Boat T.m_Boat_is_on_its_way (ok_Boat_is_on_its_way T) (hr.mono (by decide)) (b_Boat_is_on_its_way T) .nil pass0)) (pw_or1 (pt_val (pe_fld (pv 2) rfl))))) (pss_one (ps_ret (pe_lst (pa_cons (pe_gi (by rfl) T.i_NOT_AS_IT_LIES) pa_nil)))) pss_nil)
        (pss_cons (ps_if (pt_cmpR op_eq (pe_callB call_len_seq (by rfl) T.z_len PySem.boot_len (pa_cons (pe_fld (pv 0) rfl) pa_nil)) pe_int (nomark _)) (pss_one (ps_ret (pe_lst (pa_cons (pe_gi (by rfl) T.i_NO_ONE) pa_nil)))) pss_nil)
        (pss_cons (ps_set (i := 3) sc_bs_call.nd rfl (by first | exact Or.inl rfl | exact Or.inr rfl) (pe_call (ok_groups_that_fit T) (hr.mono (by decide)) rfl T.g_groups_that_fit T.F_groups_that_fit.kp (b_groups_that_fit T) .nil pass0 (pa_cons (pe_fld (pv 0) rfl) (pa_cons (pe_meth0 (pv 2) T.cl_Boat T.m_Boat_seats_left (ok_Boat_seats_left T) (hr.mono (by decide)) (b_Boat_seats_left T) .nil pass0) pa_nil))))
        (pss_cons (ps_if (pt_cmpR op_eq (pv 3) pe_int (nomark _)) (pss_one (ps_ret (pe_lst (pa_cons (pe_gi (by rfl) T.i_NO_SEATS) pa_nil)))) pss_nil)
        (pss_cons (ps_set (i := 4) sc_bs_call.nd rfl (by first | exact Or.inl rfl | exact Or.inr rfl) (pe_call (ok_persons_of_first T) (hr.mono (by decide)) rfl T.g_persons_of_first T.F_persons_of_first.kp (b_persons_of_first T) .nil pass0 (pa_cons (pe_fld (pv 0) rfl) (pa_cons (pv 3) pa_nil))))
        (pss_cons (ps_fld (pv 0) (pe_slice sl_list (pe_fld (pv 0) rfl) (po_some (pv 3)) po_none) rfl)
        (pss_cons (ps_expr (pe_call (ok_move_in T) (hr.mono (by decide)) rfl T.g_move_in T.F_move_in.kp (b_move_in T) .nil pass0 (pa_cons (pv 0) (pa_cons (pv 2) (pa_cons (pv 4) pa_nil)))))
        (pss_one (ps_ret (pe_lst (pa_cons (pv 3) (pa_cons (pv 4) pa_nil)))))))))))))), ?_⟩
    refine ⟨_, rfl, a, dx, _, rfl, X.st, sF_no_has_boat s bl ql, _, rfl, a, k, s, fr H0, rfl, Y, _, rfl, ?_⟩
    cases e : s.boats[k]? with
    | none =>
      refine iteN (not_lt_get e) ⟨(by show 1 ≤ sizeLine; decide), fun p hp => ?_⟩
      exact refuse S Y q (Same.refl _) (by simp only [Km439.act, e]) hp
    | some b =>
      obtain ⟨x, hx, Yb⟩ := X.boat e
      obtain ⟨d, eb⟩ := id Yb
      have wb := W.bo b (List.mem_of_getElem? e)
      refine iteNS (lt_of_get e) ?_
      refine ⟨_, rfl, a, _, dx, _, _, rfl, X.st, T.cl_State, T.n_State_boats, sF_boats s bl ql, _, rfl, bl, _, _, _, rfl, rfl, SqL.of X.bs, at_of rfl (get_ref hx), ?_⟩
      refine ⟨_, rfl, x, d, _, rfl, eb, bF_no_is_on_its_way b, x, b, rfl, Yb, _, rfl, ?_⟩
      by_cases c1 : b.left ≠ 0
      · refine iteD (by omega) (iteT ⟨(by show 1 ≤ sizeLine; decide), fun p hp => ?_⟩)
        exact refuse S Y q (Same.refl _) (by simp only [Km439.act, e, if_pos (show b.left ≠ 0 ∨ b.shore = true from .inl c1)]) hp
      refine iteDn (by omega) ?_
      refine ⟨_, rfl, x, _, d, _, _, rfl, eb, T.cl_Boat, T.n_Boat_to_shore, bF_to_shore b, _, rfl, ?_⟩
      by_cases c2 : b.shore = true
      · refine iteB c2 ⟨(by show 1 ≤ sizeLine; decide), fun p hp => ?_⟩
        exact refuse S Y q (Same.refl _) (by simp only [Km439.act, e, if_pos (show b.left ≠ 0 ∨ b.shore = true from .inr c2)]) hp
      refine iteBf (Bool.eq_false_iff.mpr c2) ?_
      have c12 : ¬ (b.left ≠ 0 ∨ b.shore = true) := fun z => z.elim c1 c2
      refine ⟨_, rfl, a, _, dx, _, _, rfl, X.st, T.cl_State, T.n_State_groups, sF_groups s bl ql, ql, _, rfl, .inl (SqL.of X.qs), rfl, _, rfl, ?_⟩
      have qn := X.qn
      have nq := W.nq
      by_cases c3 : s.queue = []
      · refine iteD (by rw [List.length_map, qn, c3]; rfl) ⟨(by show 1 ≤ sizeLine; decide), fun p hp => ?_⟩
        exact refuse S Y q (Same.refl _) (by simp only [Km439.act, e, if_neg c12, if_pos c3]) hp
      have c3' : s.queue.length ≠ 0 := fun z => c3 (List.length_eq_zero_iff.mp z)
      refine iteDn (by intro z; have z := V.int.inj z; rw [List.length_map] at z; omega) ?_
      have es : (((b.seats : Nat) : Int) - (b.in_ : Nat)) = ((b.seats - b.in_ : Nat) : Int) := (Int.natCast_sub wb.i).symm
      refine ⟨_, rfl, a, _, dx, _, _, rfl, X.st, T.cl_State, T.n_State_groups, sF_groups s bl ql, _, rfl, x, d, _, rfl, eb, bF_no_seats_left b, x, b, rfl, Yb, ql, ts, s.queue, b.seats - b.in_, (by rw [es]; rfl), X.grAt, nq, fun H1 S1 => ?_⟩
      refine ⟨_, rfl, rfl, _, rfl, ?_⟩
      by_cases c4 : Km439.called s.queue (b.seats - b.in_) = 0
      · refine iteD (by rw [c4]; rfl) ⟨(by show 1 ≤ sizeLine; decide), fun p hp => ?_⟩
        exact refuse S Y q S1 (by simp only [Km439.act, e, if_neg c12, if_neg c3, if_pos c4]) hp
      refine iteDn (by intro z; have z := V.int.inj z; omega) ?_
      have X1 := X.same S1
      refine ⟨_, rfl, a, _, dx, _, _, rfl, X1.st, T.cl_State, T.n_State_groups, sF_groups s bl ql, _, rfl, ql, ts, s.queue, Km439.called s.queue (b.seats - b.in_), rfl, X1.grAt, nq, fun H2 S2 => ?_⟩
      have X2 := X1.same S2
      have hcl := called_le s.queue (b.seats - b.in_)
      have hcf := called_fits s.queue (b.seats - b.in_)
      have hps := persons_split s.queue (Km439.called s.queue (b.seats - b.in_))
      generalize hc : Km439.called s.queue (b.seats - b.in_) = c at *
      -- state.groups = state.groups[called:]
      refine ⟨_, rfl, a, _, dx, _, _, rfl, X2.st, T.cl_State, T.n_State_groups, sF_groups s bl ql, _, rfl, _, rfl, ql, _, rfl, SqL.of X2.qs, fun p hp => ?_⟩
      have ex : cutV (ts.map V.ref) (some (c : Int)) none = (ts.drop c).map V.ref := by rw [cut_drop _ _ (by rw [List.length_map]; omega), List.map_drop]
      rw [ex]
      have X3 := X2.same (Same.new hp (.lst ((ts.drop c).map V.ref)))
      have nbp : bl ≠ p := ne_of_none X2.bs hp
      refine ⟨_, rfl, a, _, dx, _, rfl, X3.st, T.cl_State, T.n_State_groups, (by show 9 < 1000; decide), ?_⟩
      have e1 : putF "groups" (.ref p) (sF s bl ql) = sF { s with queue := s.queue.drop c } bl p := by rw [sF_put_groups]; rfl
      rw [e1]
      have frp : fr H0 p := S.free (S1.free (S2.free hp))
      have X4 := X3.setQ (s' := { s with queue := s.queue.drop c }) (l := s.queue.drop c) upd_same (by rw [List.length_drop, List.length_drop, qn]) nbp frp (fun i t g h1 h2 => by
        rw [List.getElem?_drop] at h1 h2
        exact X3.gr (c + i) t g h1 h2) rfl rfl
      have S4 : Same H0 _ := Same.put ((S.trans (S1.trans S2)).trans (Same.new hp (.lst ((ts.drop c).map V.ref)))) X.oa (.ins A.c_State dx (sF { s with queue := s.queue.drop c } bl p))
      have wi := wb.i
      have wq := W.wq
      refine ⟨_, rfl, _, rfl, _, rfl, H0, a, dx, bl, p, x, as, ts.drop c, { s with queue := s.queue.drop c }, k, b, _, b.in_ + Km439.persons (s.queue.take c), s.ship - Km439.persons (s.queue.take c), rfl, S4, X4, hx, e, (by omega), (by rw [if_neg c2]; show ((s.ship : Nat) : Int) - _ = _; omega), fun H5 S5 X5 => ?_⟩
      rw [if_neg c2] at X5
      refine ⟨_, rfl, _, rfl, (by show 2 ≤ sizeLine; decide), fun r hr5 => ?_⟩
      refine doneC q (s' := { s.set k { b with in_ := b.in_ + Km439.persons (s.queue.take c) } with ship := s.ship - Km439.persons (s.queue.take c), queue := s.queue.drop c }) (an := ⟨((c : Nat) : Int), [Km439.persons (s.queue.take c)]⟩) (by simp only [Km439.act, e, if_neg c12, if_neg c3, hc, if_neg c4]) S5 X5.at_ hr5 rfl
theorem zip_filter {ts : List Addr} {l : List (Nat × Nat)} (p : Nat × Nat → Bool) (h : ts.length = l.length) : ((ts.zip l).filter fun x => p x.2).map (·.2) = l.filter p := by
  induction ts generalizing l with
  | nil =>
    cases l with
    | nil => rfl
    | cons a r => cases h
  | cons t ts ih =>
    cases l with
    | nil => cases h
    | cons a r =>
      have ih := ih (l := r) (by simpa using h)
      rw [List.zip_cons_cons, List.filter_cons, List.filter_cons]
      by_cases hp : p a = true
      · rw [if_pos hp, if_pos hp, List.map_cons, ih]
      · rw [if_neg hp, if_neg hp, ih]
theorem find_filter (k : Nat) : ∀ l : List (Nat × Nat), (l.filter fun x => x.1 == k).head? = l.find? fun x => x.1 == k
  | [] => rfl
  | a :: r => by
    rw [List.filter_cons, List.find?_cons]
    cases h : (a.1 == k) with
    | true => rfl
    | false => exact find_filter k r
def sp_bs_drop (K : PySem.W.Frag) (A : Ad) : Sp := fun vs H Q _ => ∃ (a : Addr) (k : Nat), vs = [.ref a, .int k] ∧ Chg A H a (.drop k) Q
theorem ok_bs_drop (T : Txt K mg A) : FnOk P w K mg base CX0 1 A.f_bs_drop A.d_bs_drop P_bs_drop (sp_bs_drop K A) := by
  refine T.F_bs_drop.ok sc_bs_drop (fun vs H Q E h => ?_) (fun cdv Ar outer s0 H vs Q E hr h => ?_)
  · obtain ⟨a, k, rfl, _⟩ := h
    rfl
  · obtain ⟨a, k, rfl, H0, s, S, Y, W, q⟩ := h
    obtain ⟨dx, bl, ql, as, ts, X⟩ := id Y
    refine ⟨_, (pss_cons (ps_setLc (i := 2) rfl sc_bs_drop.nd rfl rfl (sw_true rfl rfl rfl rfl) (pi_list (pe_fld (pv 0) rfl)) (blkOk_by (N := N_bs_drop) (sc := defScope s_bs_drop) (own := [("ticket", 3), ("persons", 4)]) (by decide +kernel)) (fun _ _ _ _ _ => (pg_tupK (K := K) (n := 2) rfl rfl (pgs_cons (pg_name (i := 3) sc_bs_drop.nd rfl (by first | exact Or.inl rfl | exact Or.inr rfl)) (pgs_cons (pg_name (i := 4) sc_bs_drop.nd rfl (by first | exact Or.inl rfl | exact Or.inr rfl)) pgs_nil)))) (fun _ _ _ _ _ => (pts_one (pt_cmpR op_eq (pv 3) (pv 1) (nomark _)))) (fun _ _ _ _ _ => (pv 4)))
        (pss_cons (ps_if (pt_cmpR op_eq (pe_callB call_len_seq (by rfl) T.z_len PySem.boot_len (pa_cons (pv 2) pa_nil)) pe_int (nomark _)) (pss_one (ps_ret (pe_lst (pa_cons (pe_gi (by rfl) T.i_NONE_THERE) pa_nil)))) pss_nil)
        (pss_cons (ps_fld (pv 0) (pe_lc rfl sc_bs_drop.nd (pi_list (pe_fld (pv 0) rfl)) (blkOk_by (N := N_bs_drop) (sc := defScope s_bs_drop) (own := [("group", 5)]) (by decide +kernel)) (fun _ _ _ _ _ => (pg_name (i := 5) sc_bs_drop.nd rfl (by first | exact Or.inl rfl | exact Or.inr rfl))) (fun _ _ _ _ _ => (pts_one (pt_cmpR op_ne (pe_ix (ix_tupK (K := K) rfl) (pv 5) pe_int (fun _ _ => rfl)) (pv 1) (nomark _)))) (fun _ _ _ _ _ => (pv 5))) rfl)
        (pss_one (ps_ret (pe_lst (pa_cons (pe_ix ix_list (pv 2) pe_int (fun _ _ => rfl)) pa_nil))))))), ?_⟩
    refine ⟨_, rfl, a, _, dx, _, _, rfl, X.st, T.cl_State, T.n_State_groups, sF_groups s bl ql, ql, rfl, ⟨_, SqL.of X.qs⟩, ?_⟩
    refine lc_map (items := s.queue) (p := fun x => x.1 == k) (f := fun x => V.int (x.2 : Nat)) (SqL.of X.qs) (by rw [List.length_map, X.qn]) (small10 W.nq) ?_ ?_
    · intro i x g H' hi hg S' R N hR hN
      obtain ⟨t, ht, rfl⟩ := map_ref_at hi
      refine ⟨t, _, rfl, SqT.of (S' _ _ (X.gr i t g ht hg)), rfl, _, _, rfl, _, _, rfl, rfl, rfl, _, rfl, _, rfl, rfl, _, rfl, ?_⟩
      by_cases c : g.1 = k
      · exact iteD (by rw [c]) ⟨_, rfl, hR (by rw [c]; exact beq_self_eq_true k) _ (Same.refl _)⟩
      · exact iteDn (by intro z; have z := V.int.inj z; omega) (hN (beq_eq_false_iff_ne.mpr c) _ (Same.refl _))
    · intro D H1 S1 hD hD'
      refine ⟨_, rfl, D, _, rfl, .inl (SqL.of hD'), rfl, _, rfl, ?_⟩
      have hh := find_filter k s.queue
      cases e : s.queue.find? fun x => x.1 == k with
      | none =>
        rw [e] at hh
        have hn : (s.queue.filter fun x => x.1 == k) = [] := List.head?_eq_none_iff.mp hh
        refine iteD (by rw [hn]; rfl) ⟨(by show 1 ≤ sizeLine; decide), fun p hp => ?_⟩
        exact refuse S Y q S1 (by simp only [Km439.act, e]) hp
      | some g =>
        rw [e] at hh
        obtain ⟨r, hr'⟩ : ∃ r, (s.queue.filter fun x => x.1 == k) = g :: r := by
          cases z : (s.queue.filter fun x => x.1 == k) with
          | nil => rw [z] at hh; cases hh
          | cons y r => rw [z] at hh; cases hh; exact ⟨r, rfl⟩
        refine iteDn (by rw [hr']; intro z; have z := V.int.inj z; rw [List.map_cons, List.length_cons] at z; omega) ?_
        have X1 := X.same S1
        refine ⟨_, rfl, a, _, dx, _, _, rfl, X1.st, T.cl_State, T.n_State_groups, sF_groups s bl ql, ql, rfl, ⟨_, SqL.of X1.qs⟩, ?_⟩
        refine lc_map (items := ts.zip s.queue) (p := fun x => x.2.1 != k) (f := fun x => V.ref x.1) (SqL.of X1.qs) (by rw [List.length_map, List.length_zip, X.qn]; omega) (small10 (by rw [List.length_zip]; have := W.nq; omega)) ?_ ?_
        · intro i x y H' hi hy S' R N hR hN
          obtain ⟨t, ht, rfl⟩ := map_ref_at hi
          obtain ⟨g', hg', et⟩ := X1.group ht
          have ey : y = (t, g') := by
            have ez : (ts.zip s.queue)[i]? = some (t, g') := List.getElem?_zip_eq_some.mpr ⟨ht, hg'⟩
            rw [ez] at hy
            exact (Option.some.inj hy).symm
          subst ey
          refine ⟨rfl, _, rfl, t, _, _, _, rfl, rfl, SqT.of (S' _ _ et), at_of (j := 0) rfl rfl, _, rfl, rfl, _, rfl, ?_⟩
          by_cases c : g'.1 = k
          · exact iteNS (by rw [c]) (hN (by show (g'.1 != k) = false; rw [c]; exact bne_self_eq_false k) _ (Same.refl _))
          · exact iteN (by intro z; have z := V.int.inj z; omega) ⟨_, rfl, hR (by show (g'.1 != k) = true; exact bne_iff_ne.mpr c) _ (Same.refl _)⟩
        · intro E' H2 S2 hE hE'
          have X2 := X1.same S2
          refine ⟨_, rfl, a, _, dx, _, rfl, X2.st, T.cl_State, T.n_State_groups, (by show 9 < 1000; decide), ?_⟩
          have ef := zip_filter (ts := ts) (fun x => x.1 != k) X.qn
          have e1 : putF "groups" (.ref E') (sF s bl ql) = sF { s with queue := s.queue.filter fun y => y.1 != k } bl E' := by rw [sF_put_groups]; rfl
          rw [e1]
          have frp : fr H0 E' := S.free (S1.free hE)
          have X3 := X2.setQ (q' := E') (ts' := ((ts.zip s.queue).filter fun x => x.2.1 != k).map (·.1)) (s' := { s with queue := s.queue.filter fun y => y.1 != k }) (l := s.queue.filter fun y => y.1 != k) (by rw [hE', List.map_map]; rfl) (by rw [← ef, List.length_map, List.length_map]) (ne_of_none X1.bs hE) frp (fun i t g h1 h2 => by
            rw [← ef, List.getElem?_map] at h2
            rw [List.getElem?_map] at h1
            cases z : ((ts.zip s.queue).filter fun x => x.2.1 != k)[i]? with
            | none => rw [z] at h1; cases h1
            | some y =>
              rw [z] at h1 h2
              cases h1
              cases h2
              have hm := (List.mem_filter.mp (List.mem_of_getElem? z)).1
              obtain ⟨j, hj⟩ := List.getElem?_of_mem hm
              obtain ⟨j1, j2⟩ := List.getElem?_zip_eq_some.mp hj
              exact X2.gr j _ _ j1 j2) rfl rfl
          have S3 : Same H0 _ := Same.put (S.trans (S1.trans S2)) X.oa (.ins A.c_State dx (sF { s with queue := s.queue.filter fun y => y.1 != k } bl E'))
          have hD2 : (upd H2 a (.ins A.c_State dx (sF { s with queue := s.queue.filter fun y => y.1 != k } bl E'))) D = some (.lst ((s.queue.filter fun x => x.1 == k).map fun x => V.int (x.2 : Nat))) := by
            rw [upd_ne (ne_of (S2 _ _ hD') X2.st (by intro q; cases q))]
            exact S2 _ _ hD'
          refine ⟨_, rfl, D, _, _, _, rfl, rfl, SqL.of hD2, at_of (j := 0) rfl (by rw [hr']; rfl), (by show 1 ≤ sizeLine; decide), fun p hp => ?_⟩
          exact doneC q (s' := { s with queue := s.queue.filter fun y => y.1 != k }) (an := Km439.only ((g.2 : Nat) : Int)) (by simp only [Km439.act, e]) S3 X3.at_ hp rfl
end
end Bts

end
section
set_option Elab.async false
set_option linter.all false
set_option maxRecDepth 100000
set_option maxHeartbeats 4000000
namespace Bts
open PySem PySem.Spec PyProof.Rows L2
section
variable {P : Program} {w : World} {K : PySem.W.Frag} {mg : Str → Option Value} {base : Heap} {A : Ad}
def sp_last_one_coming (K : PySem.W.Frag) (A : Ad) : Sp := fun vs H Q _ => ∃ (a : Addr) (s : Km439.Sea) (ok : Addr → Prop), vs = [.ref a] ∧ StAt A ok H a s ∧ WF s ∧ ∀ H', Same H H' → Q (.int (s.coming : Nat)) H'
theorem ok_last_one_coming (T : Txt K mg A) : FnOk P w K mg base CX0 1 A.f_last_one_coming A.d_last_one_coming P_last_one_coming (sp_last_one_coming K A) := by
  refine T.F_last_one_coming.ok sc_last_one_coming (fun vs H Q E h => ?_) (fun cdv Ar outer s0 H vs Q E hr h => ?_)
  · obtain ⟨a, s, ok, rfl, _⟩ := h
    rfl
  · obtain ⟨a, s, ok, rfl, Y, W, k⟩ := h
    obtain ⟨dx, bl, ql, as, ts, X⟩ := id Y
    refine ⟨_, (pss_one (ps_ret (pe_maxD (by rfl) T.z_max (pa_cons (pe_lc rfl sc_last_one_coming.nd (pi_list (pe_fld (pv 0) rfl)) (blkOk_by (N := N_last_one_coming) (sc := defScope s_last_one_coming) (own := [("boat", 1)]) (by decide +kernel)) (fun _ _ _ _ _ => (pg_name (i := 1) sc_last_one_coming.nd rfl (by first | exact Or.inl rfl | exact Or.inr rfl))) (fun _ _ _ _ _ => (pts_one (PW.pt (pw_and (pt_not (pt_val (pe_fldK (K := K) rfl (pv 1) rfl))) (pw_and1 (pt_cmpR op_gt (pe_fldK (K := K) rfl (pv 1) rfl) pe_int (nomark _))))))) (fun _ _ _ _ _ => (pe_fldK (K := K) rfl (pv 1) rfl))) pa_nil) pe_int))), ?_⟩
    refine ⟨_, rfl, a, _, dx, _, _, rfl, X.st, T.cl_State, T.n_State_boats, sF_boats s bl ql, bl, rfl, ⟨_, SqL.of X.bs⟩, ?_⟩
    refine lc_map (items := s.boats) (p := inComing) (f := fun b => V.int (b.left : Nat)) (SqL.of X.bs) (by rw [List.length_map, X.bn]) (small10 (Nat.le_trans W.nb (by decide))) ?_ ?_
    · intro i x b H' hi hb S R N hR hN
      obtain ⟨y, hy, rfl⟩ := map_ref_at hi
      obtain ⟨d, eb⟩ := (X.bo i y b hy hb).same S
      refine ⟨rfl, _, rfl, y, _, d, _, _, rfl, eb, T.cl_Boat, T.n_Boat_to_shore, bF_to_shore b, _, rfl, ?_⟩
      unfold inComing at hR hN
      cases hs : b.shore with
      | true =>
        rw [hs] at hN
        exact iteF (iteF (hN rfl _ (Same.refl _)))
      | false =>
        rw [hs] at hN hR
        refine iteT ⟨_, rfl, y, _, d, _, _, rfl, eb, T.cl_Boat, T.n_Boat_inside, bF_inside b, _, _, rfl, rfl, _, rfl, ?_⟩
        refine ite2 (fun c => ?_) (fun c => ?_)
        · exact ⟨_, rfl, y, _, d, _, _, rfl, eb, T.cl_Boat, T.n_Boat_minutes_left, bF_minutes_left b, hR c _ (Same.refl _)⟩
        · exact hN (Bool.eq_false_iff.mpr c) _ (Same.refl _)
    · intro D H' S hD hD'
      refine ⟨D, (s.boats.filter inComing).map fun b => ((b.left : Nat) : Int), rfl, SqL.of (by rw [hD', map_int]), fun hn => ?_, fun m h1 h2 => ?_⟩
      · have e := coming_none s hn
        have r := k H' S
        rw [e] at r
        exact r
      · rw [coming_max s h1 h2]
        exact k H' S
def vBack (s : Km439.Sea) : V := match s.back with
  | none => .non
  | some t => .int (t : Nat)
def sp_least_minutes (K : PySem.W.Frag) (A : Ad) : Sp := fun vs H Q _ => ∃ (a : Addr) (s : Km439.Sea) (ok : Addr → Prop), vs = [.ref a] ∧ StAt A ok H a s ∧ WF s ∧ ∀ H', Same H H' → Q (vBack s) H'
theorem ok_least_minutes (T : Txt K mg A) : FnOk P w K mg base CX0 4 A.f_least_minutes A.d_least_minutes P_least_minutes (sp_least_minutes K A) := by
  refine T.F_least_minutes.ok sc_least_minutes (fun vs H Q E h => ?_) (fun cdv Ar outer s0 H vs Q E hr h => ?_)
  · obtain ⟨a, s, ok, rfl, _⟩ := h
    rfl
  · obtain ⟨a, s, ok, rfl, Y, W, k⟩ := h
    refine ⟨_, (pss_cons (ps_set (i := 1) sc_least_minutes.nd rfl (by first | exact Or.inl rfl | exact Or.inr rfl) (pe_call (ok_persons_away T) (hr.mono (by decide)) rfl T.g_persons_away T.F_persons_away.kp (b_persons_away T) .nil pass0 (pa_cons (pv 0) pa_nil)))
        (pss_cons (ps_if (pt_cmpR op_lt (pe_call (ok_brought_within T) (hr.mono (by decide)) rfl T.g_brought_within T.F_brought_within.kp (b_brought_within T) .nil pass0 (pa_cons (pv 0) (pa_cons (pe_gi (by rfl) T.i_LAST_MINUTE) pa_nil))) (pv 1) (nomark _)) (pss_one (ps_ret pe_non)) pss_nil)
        (pss_cons (ps_set (i := 2) sc_least_minutes.nd rfl (by first | exact Or.inl rfl | exact Or.inr rfl) (pe_call (ok_last_one_coming T) (hr.mono (by decide)) rfl T.g_last_one_coming T.F_last_one_coming.kp (b_last_one_coming T) .nil pass0 (pa_cons (pv 0) pa_nil)))
        (pss_cons (ps_set (i := 3) sc_least_minutes.nd rfl (by first | exact Or.inl rfl | exact Or.inr rfl) (pe_gi (by rfl) T.i_LAST_MINUTE))
        (pss_cons (ps_while PassesOwn.never (pt_cmpR op_lt (pv 2) (pv 3) (nomark _)) (pss_cons (ps_set (i := 4) sc_least_minutes.nd rfl (by first | exact Or.inl rfl | exact Or.inr rfl) (pe_op op_fdiv (pe_op op_add (pv 2) (pv 3)) pe_int))
        (pss_one (ps_if (pt_cmpR op_ge (pe_call (ok_brought_within T) (hr.mono (by decide)) rfl T.g_brought_within T.F_brought_within.kp (b_brought_within T) .nil pass0 (pa_cons (pv 0) (pa_cons (pv 4) pa_nil))) (pv 1) (nomark _)) (pss_one (ps_set (i := 3) sc_least_minutes.nd rfl (by first | exact Or.inl rfl | exact Or.inr rfl) (pv 4))) (pss_one (ps_set (i := 2) sc_least_minutes.nd rfl (by first | exact Or.inl rfl | exact Or.inr rfl) (pe_op op_add (pv 4) pe_int)))))))
        (pss_one (ps_ret (pv 2)))))))), ?_⟩
    refine ⟨_, rfl, a, s, ok, rfl, Y, W, fun H1 S1 => ?_⟩
    refine ⟨_, rfl, a, s, ok, 100000, rfl, Y.same S1, W, fun H2 S2 => ⟨_, rfl, _, _, rfl, rfl, _, rfl, ?_⟩⟩
    have S12 := S1.trans S2
    by_cases c : s.brought 100000 < s.away
    · refine iteD (by omega) ?_
      have r := k H2 S12
      unfold vBack at r
      rw [back_none W c] at r
      exact r
    refine iteDn (by omega) ?_
    refine ⟨_, rfl, a, s, ok, rfl, Y.same S12, W, fun H3 S3 => ?_⟩
    have S13 := S12.trans S3
    have hco := coming_le W
    refine ⟨fun m σ H' => ∃ (lo hi : Nat) (v : Option V), σ = [some (.ref a), some (.int (s.away : Nat)), some (.int (lo : Nat)), some (.int (hi : Nat)), v] ∧ lo ≤ hi ∧ s.coming ≤ lo ∧ s.away ≤ s.brought hi ∧ (∀ u, s.coming ≤ u → u < lo → s.brought u < s.away) ∧ m = hi - lo ∧ Same H H',
      ⟨_, s.coming, 100000, none, rfl, (by omega), Nat.le_refl _, (by omega), fun u h1 h2 => absurd h1 (by omega), rfl, S13⟩, ?_⟩
    rintro m σ H' ⟨lo, hi, v, rfl, hlh, hcl, hen, hbe, rfl, S⟩
    refine ⟨_, rfl, _, rfl, _, _, rfl, rfl, _, rfl, ?_⟩
    by_cases c1 : lo < hi
    · refine iteD (by omega) ⟨_, fun σ' H5 h5 => h5, ?_⟩
      refine ⟨_, rfl, _, rfl, _, _, rfl, rfl, _, _, rfl, rfl, ⟨by decide, by decide⟩, ?_⟩
      have em : (((lo : Nat) : Int) + (hi : Nat)) / 2 = (((lo + hi) / 2 : Nat) : Int) := by omega
      dsimp only
      rw [em]
      refine ⟨_, rfl, _, rfl, a, s, ok, (lo + hi) / 2, rfl, Y.same S, W, fun H6 S6 => ⟨_, rfl, _, _, rfl, rfl, _, rfl, ?_⟩⟩
      have S' := S.trans S6
      by_cases c2 : s.away ≤ s.brought ((lo + hi) / 2)
      · refine iteD (by omega) ?_
        exact ⟨_, rfl, (lo + hi) / 2 - lo, (by omega), lo, (lo + hi) / 2, _, rfl, (by omega), hcl, c2, hbe, rfl, S'⟩
      · refine iteDn (by omega) ?_
        refine ⟨_, rfl, _, _, rfl, rfl, hi - ((lo + hi) / 2 + 1), (by omega), (lo + hi) / 2 + 1, hi, _, rfl, (by omega), (by omega), hen, fun u h1 h2 => ?_, rfl, S'⟩
        have := brought_mono s (show u ≤ (lo + hi) / 2 by omega)
        omega
    · refine iteDn (by omega) ⟨_, rfl, ?_⟩
      have e : hi = lo := by omega
      subst e
      have r := k H' S
      unfold vBack at r
      rw [back_some W c hcl hen (fun u h1 h2 => hbe u h1 h2)] at r
      exact r
def vLeast (s : Km439.Sea) : Int := if s.clear = false then -16 else match s.back with
  | none => -33
  | some t => (t : Nat)
def sp_least_or_refusal (K : PySem.W.Frag) (A : Ad) : Sp := fun vs H Q _ => ∃ (a : Addr) (s : Km439.Sea) (ok : Addr → Prop), vs = [.ref a] ∧ StAt A ok H a s ∧ WF s ∧ ∀ H', Same H H' → Q (.int (vLeast s)) H'
theorem ok_least_or_refusal (T : Txt K mg A) : FnOk P w K mg base CX0 5 A.f_least_or_refusal A.d_least_or_refusal P_least_or_refusal (sp_least_or_refusal K A) := by
  refine T.F_least_or_refusal.ok sc_least_or_refusal (fun vs H Q E h => ?_) (fun cdv Ar outer s0 H vs Q E hr h => ?_)
  · obtain ⟨a, s, ok, rfl, _⟩ := h
    rfl
  · obtain ⟨a, s, ok, rfl, Y, W, k⟩ := h
    refine ⟨_, (pss_cons (ps_if (pt_val (pe_call (ok_somebody_goes_ashore T) (hr.mono (by decide)) rfl T.g_somebody_goes_ashore T.F_somebody_goes_ashore.kp (b_somebody_goes_ashore T) .nil pass0 (pa_cons (pv 0) pa_nil))) (pss_one (ps_ret (pe_gi (by rfl) T.i_NOT_AS_IT_LIES))) pss_nil)
        (pss_cons (ps_set (i := 1) sc_least_or_refusal.nd rfl (by first | exact Or.inl rfl | exact Or.inr rfl) (pe_call (ok_least_minutes T) (hr.mono (by decide)) rfl T.g_least_minutes T.F_least_minutes.kp (b_least_minutes T) .nil pass0 (pa_cons (pv 0) pa_nil)))
        (pss_cons (ps_if (pt_cmp (pc_isN (pv 1))) (pss_one (ps_ret (pe_gi (by rfl) T.i_NEVER))) pss_nil)
        (pss_one (ps_ret (pv 1)))))), ?_⟩
    refine ⟨_, rfl, a, s, ok, rfl, Y, W, fun H1 S1 => ⟨_, rfl, ?_⟩⟩
    unfold vLeast at k
    by_cases c : s.clear = false
    · have r := k H1 S1
      rw [if_pos c] at r
      refine iteB (by rw [c]; rfl) ?_
      exact r
    have c' : s.clear = true := by cases z : s.clear with | true => rfl | false => exact absurd z c
    refine iteBf (by rw [c']; rfl) ?_
    refine ⟨_, rfl, a, s, ok, rfl, Y.same S1, W, fun H2 S2 => ?_⟩
    have r := k H2 (S1.trans S2)
    rw [if_neg c] at r
    refine ⟨_, rfl, _, rfl, ?_⟩
    unfold vBack
    cases e : s.back with
    | none =>
      rw [e] at r
      exact iteD rfl r
    | some t =>
      rw [e] at r
      exact iteDn (by intro z; cases z) ⟨_, rfl, r⟩
def sp_bs_home (K : PySem.W.Frag) (A : Ad) : Sp := fun vs H Q _ => ∃ (a : Addr), vs = [.ref a] ∧ Ask A H a .back_ Q
theorem ok_bs_home (T : Txt K mg A) : FnOk P w K mg base CX0 6 A.f_bs_home A.d_bs_home P_bs_home (sp_bs_home K A) := by
  refine T.F_bs_home.ok sc_bs_home (fun vs H Q E h => ?_) (fun cdv Ar outer s0 H vs Q E hr h => ?_)
  · obtain ⟨a, rfl, _⟩ := h
    rfl
  · obtain ⟨a, rfl, s, Y, W, q⟩ := h
    refine ⟨_, (pss_cons (ps_set (i := 1) sc_bs_home.nd rfl (by first | exact Or.inl rfl | exact Or.inr rfl) (pe_call (ok_least_or_refusal T) (hr.mono (by decide)) rfl T.g_least_or_refusal T.F_least_or_refusal.kp (b_least_or_refusal T) .nil pass0 (pa_cons (pv 0) pa_nil)))
        (pss_cons (ps_if (pt_cmpR op_lt (pv 1) pe_int (nomark _)) (pss_one (ps_ret (pe_lst (pa_cons (pv 1) pa_nil)))) pss_nil)
        (pss_one (ps_ret (pe_lst (pa_cons (pv 1) (pa_cons (pe_call (ok_persons_away T) (hr.mono (by decide)) rfl T.g_persons_away T.F_persons_away.kp (b_persons_away T) .nil pass0 (pa_cons (pv 0) pa_nil)) (pa_cons (pe_call (ok_last_one_coming T) (hr.mono (by decide)) rfl T.g_last_one_coming T.F_last_one_coming.kp (b_last_one_coming T) .nil pass0 (pa_cons (pv 0) pa_nil)) pa_nil)))))))), ?_⟩
    refine ⟨_, rfl, a, s, _, rfl, Y, W, fun H1 S1 => ?_⟩
    refine ⟨_, rfl, _, _, rfl, rfl, _, rfl, ?_⟩
    by_cases c : s.clear = false
    · have e : vLeast s = -16 := by unfold vLeast; rw [if_pos c]
      rw [e]
      refine iteD (by decide) ⟨_, rfl, (by show 1 ≤ sizeLine; decide), fun p hp => ?_⟩
      exact toldA q (an := Km439.only (-16)) (by simp only [ans, Km439.act, if_pos c]) S1 hp rfl
    cases e2 : s.back with
    | none =>
      have e : vLeast s = -33 := by unfold vLeast; rw [if_neg c, e2]
      rw [e]
      refine iteD (by decide) ⟨_, rfl, (by show 1 ≤ sizeLine; decide), fun p hp => ?_⟩
      exact toldA q (an := Km439.only (-33)) (by simp only [ans, Km439.act, if_neg c, e2]) S1 hp rfl
    | some t =>
      have e : vLeast s = (t : Nat) := by unfold vLeast; rw [if_neg c, e2]
      rw [e]
      refine iteDn (by omega) ?_
      refine ⟨_, rfl, _, rfl, a, s, _, rfl, Y.same S1, W, fun H2 S2 => ⟨_, rfl, a, s, _, rfl, Y.same (S1.trans S2), W, fun H3 S3 => ⟨(by show 3 ≤ sizeLine; decide), fun p hp => ?_⟩⟩⟩
      exact toldA q (an := ⟨((t : Nat) : Int), [s.away, s.coming]⟩) (by simp only [ans, Km439.act, if_neg c, e2]) ((S1.trans S2).trans S3) hp rfl
def sp_bs_slack (K : PySem.W.Frag) (A : Ad) : Sp := fun vs H Q _ => ∃ (a : Addr), vs = [.ref a] ∧ Ask A H a .slack Q
theorem ok_bs_slack (T : Txt K mg A) : FnOk P w K mg base CX0 6 A.f_bs_slack A.d_bs_slack P_bs_slack (sp_bs_slack K A) := by
  refine T.F_bs_slack.ok sc_bs_slack (fun vs H Q E h => ?_) (fun cdv Ar outer s0 H vs Q E hr h => ?_)
  · obtain ⟨a, rfl, _⟩ := h
    rfl
  · obtain ⟨a, rfl, s, Y, W, q⟩ := h
    obtain ⟨dx, bl, ql, as, ts, X⟩ := id Y
    refine ⟨_, (pss_cons (ps_set (i := 1) sc_bs_slack.nd rfl (by first | exact Or.inl rfl | exact Or.inr rfl) (pe_call (ok_least_or_refusal T) (hr.mono (by decide)) rfl T.g_least_or_refusal T.F_least_or_refusal.kp (b_least_or_refusal T) .nil pass0 (pa_cons (pv 0) pa_nil)))
        (pss_cons (ps_if (pt_cmpR op_lt (pv 1) pe_int (nomark _)) (pss_one (ps_ret (pe_lst (pa_cons (pv 1) pa_nil)))) pss_nil)
        (pss_cons (ps_set (i := 2) sc_bs_slack.nd rfl (by first | exact Or.inl rfl | exact Or.inr rfl) (pe_op op_sub (pe_fld (pv 0) rfl) (pe_op op_add (pe_fld (pv 0) rfl) (pv 1))))
        (pss_cons (ps_if (pt_cmpR op_lt (pv 2) pe_int (nomark _)) (pss_one (ps_ret (pe_lst (pa_cons (pe_gi (by rfl) T.i_TOO_LATE) pa_nil)))) pss_nil)
        (pss_one (ps_ret (pe_lst (pa_cons (pv 2) pa_nil)))))))), ?_⟩
    refine ⟨_, rfl, a, s, _, rfl, Y, W, fun H1 S1 => ?_⟩
    refine ⟨_, rfl, _, _, rfl, rfl, _, rfl, ?_⟩
    by_cases c : s.clear = false
    · have e : vLeast s = -16 := by unfold vLeast; rw [if_pos c]
      rw [e]
      refine iteD (by decide) ⟨_, rfl, (by show 1 ≤ sizeLine; decide), fun p hp => ?_⟩
      exact toldA q (an := Km439.only (-16)) (by simp only [ans, Km439.act, if_pos c]) S1 hp rfl
    cases e2 : s.back with
    | none =>
      have e : vLeast s = -33 := by unfold vLeast; rw [if_neg c, e2]
      rw [e]
      refine iteD (by decide) ⟨_, rfl, (by show 1 ≤ sizeLine; decide), fun p hp => ?_⟩
      exact toldA q (an := Km439.only (-33)) (by simp only [ans, Km439.act, if_neg c, e2]) S1 hp rfl
    | some t =>
      have e : vLeast s = (t : Nat) := by unfold vLeast; rw [if_neg c, e2]
      rw [e]
      refine iteDn (by omega) ?_
      have X1 := X.same S1
      refine ⟨_, rfl, a, _, dx, _, _, rfl, X1.st, T.cl_State, T.n_State_sail, sF_sail s bl ql, _, rfl, a, _, dx, _, _, rfl, X1.st, T.cl_State, T.n_State_minute, sF_minute s bl ql, _, rfl, _, _, rfl, rfl, _, _, rfl, rfl, ?_⟩
      refine ⟨_, rfl, _, _, rfl, rfl, _, rfl, ?_⟩
      by_cases c2 : s.sail < s.time + t
      · refine iteD (by omega) ⟨(by show 1 ≤ sizeLine; decide), fun p hp => ?_⟩
        exact toldA q (an := Km439.only (-75)) (by simp only [ans, Km439.act, if_neg c, e2, if_pos c2]) S1 hp rfl
      · refine iteDn (by omega) ⟨_, rfl, (by show 1 ≤ sizeLine; decide), fun p hp => ?_⟩
        refine toldA q (an := Km439.only ((s.sail - (s.time + t) : Nat) : Int)) (by simp only [ans, Km439.act, if_neg c, e2, if_neg c2]) S1 hp ?_
        show [V.int (((s.sail : Nat) : Int) - ((s.time : Nat) + (t : Nat)))] = [V.int ((s.sail - (s.time + t) : Nat) : Int)]
        congr 2
        omega
def sp_bs_brought (K : PySem.W.Frag) (A : Ad) : Sp := fun vs H Q _ => ∃ (a : Addr) (t : Nat), vs = [.ref a, .int t] ∧ Ask A H a (.brought t) Q
theorem ok_bs_brought (T : Txt K mg A) : FnOk P w K mg base CX0 4 A.f_bs_brought A.d_bs_brought P_bs_brought (sp_bs_brought K A) := by
  refine T.F_bs_brought.ok sc_bs_brought (fun vs H Q E h => ?_) (fun cdv Ar outer s0 H vs Q E hr h => ?_)
  · obtain ⟨a, t, rfl, _⟩ := h
    rfl
  · obtain ⟨a, t, rfl, s, Y, W, q⟩ := h
    refine ⟨_, (pss_cons (ps_if (pt_cmpR op_gt (pv 1) (pe_gi (by rfl) T.i_LAST_MINUTE) (nomark _)) (pss_one (ps_ret (pe_lst (pa_cons (pe_gi (by rfl) T.i_WRONG) pa_nil)))) pss_nil)
        (pss_one (ps_ret (pe_lst (pa_cons (pe_call (ok_brought_within T) (hr.mono (by decide)) rfl T.g_brought_within T.F_brought_within.kp (b_brought_within T) .nil pass0 (pa_cons (pv 0) (pa_cons (pv 1) pa_nil))) pa_nil))))), ?_⟩
    refine ⟨_, rfl, _, _, rfl, rfl, _, rfl, ?_⟩
    by_cases c : Km439.LATEST < t
    · have c' : 100000 < t := c
      refine iteD (by omega) ⟨(by show 1 ≤ sizeLine; decide), fun p hp => ?_⟩
      exact toldA q (an := Km439.only (-22)) (by simp only [ans, Km439.act, if_pos c]) (Same.refl _) hp rfl
    · have c' : ¬ 100000 < t := c
      refine iteDn (by omega) ⟨_, rfl, _, rfl, a, s, _, t, rfl, Y, W, fun H1 S1 => ⟨(by show 1 ≤ sizeLine; decide), fun p hp => ?_⟩⟩
      exact toldA q (an := Km439.only ((s.brought t : Nat) : Int)) (by simp only [ans, Km439.act, if_neg c]) S1 hp rfl
end
end Bts

end
section
set_option Elab.async false
set_option linter.all false
set_option maxRecDepth 100000
set_option maxHeartbeats 4000000
namespace Bts
open PySem PySem.Spec PyProof.Rows L2
section
variable {P : Program} {w : World} {K : PySem.W.Frag} {mg : Str → Option Value} {base : Heap} {A : Ad}
/-- a comprehension over enumerate(list) -/
theorem lc_enum {α : Type} {a : Addr} {xs : List V} {items : List α} {p : α → Bool} {f : Nat → α → V} {g : TG} {tt : TT} {te : TE} {vs : List Nat} {σ : L2.St} {H1 : Hp} {Qd : Addr → Hp → Prop} (hx : SqL K H1 a xs) (hn : xs.length = items.length) (hz : items.length < sizeLine)
    (turn : ∀ (i : Nat) (x : V) (b : α) (t : Addr) (H : Hp), xs[i]? = some x → items[i]? = some b → Same H1 H → H t = some (.tup [.int (i : Nat), x]) → ∀ (R : VK) (N : Hp → Prop), (p b = true → ∀ H4, Same H H4 → R (f i b) H4) → (p b = false → ∀ H3, Same H H3 → N H3) →
      g (.ref t) (wipe σ vs) H fun σ2 H2 => wipe σ2 vs = wipe σ vs ∧ tt σ2 H2 fun c H3 => if c = true then te σ2 H3 R else N H3)
    (k : ∀ (D : Addr) (H' : Hp), Same H1 H' → H1 D = none → H' D = some (.lst ((items.zipIdx.filter fun x => p x.1).map fun x => f x.2 x.1)) → Qd D H') :
    ∀ D, H1 D = none → ∃ W : Nat → Nat → Hp → Prop, (∃ m, W 0 m (upd H1 D (.lst []))) ∧ ∀ i m H, W i m H →
      ((Ite K a).stop i H ∧ Qd D H) ∨ ((Ite K a).go i H ∧ ∃ Nx : Hp → Prop, (∀ H', Nx H' → ∃ m', m' < m ∧ W (i + 1) m' H') ∧ ∀ x H', (Ite K a).yld i H x H' → g x (wipe σ vs) H' fun σ2 H2 => wipe σ2 vs = wipe σ vs ∧ tt σ2 H2 fun b H3 =>
        if b = true then te σ2 H3 fun y H4 => ∃ acc, H4 D = some (.lst acc) ∧ acc.length < sizeLine ∧ Nx (upd H4 D (.lst (acc ++ [y]))) else Nx H3) := by
  intro D hD
  let acc : Nat → List V := fun i => ((items.zipIdx.take i).filter fun x => p x.1).map fun x => f x.2 x.1
  refine ⟨fun i m H => m = xs.length - i ∧ i ≤ xs.length ∧ Same H1 H ∧ H D = some (.lst (acc i)), ⟨xs.length, rfl, Nat.zero_le _, Same.new hD _, upd_same⟩, ?_⟩
  rintro i m H ⟨rfl, hi, S, hacc⟩
  have q : SqL K H a xs := S.seq hx
  by_cases hlt : i < xs.length
  · have hb : items[i]? = some (items[i]'(by omega)) := List.getElem?_eq_getElem (by omega)
    generalize (items[i]'(by omega)) = b at hb
    have hzi : items.zipIdx[i]? = some (b, i) := by rw [List.getElem?_zipIdx, hb]; simp
    have et : items.zipIdx.take (i + 1) = items.zipIdx.take i ++ [(b, i)] := by rw [List.take_succ, hzi]; rfl
    refine .inr ⟨⟨xs, xs[i], q, by simp [hlt]⟩, fun H' => Same H1 H' ∧ H' D = some (.lst (acc (i + 1))), fun H' h => ⟨xs.length - (i + 1), by omega, rfl, hlt, h.1, h.2⟩, fun x H' y => ?_⟩
    obtain ⟨t, z, rfl, ht, rfl, hxs⟩ := y
    have S' := Same.new (H := H) ht (.tup [.int (i : Nat), z])
    refine turn i z b t _ (hxs xs q) hb (S.trans S') upd_same (fun y H4 => ∃ ac, H4 D = some (.lst ac) ∧ ac.length < sizeLine ∧ _) _ (fun hp H4 S4 => ?_) (fun hp H3 S3 => ?_)
    · refine ⟨_, S4 _ _ (S' _ _ hacc), ?_, Same.put ((S.trans S').trans S4) hD _, ?_⟩
      · show (((items.zipIdx.take i).filter fun x => p x.1).map fun x => f x.2 x.1).length < sizeLine
        rw [List.length_map]
        refine Nat.lt_of_le_of_lt (List.length_filter_le _ _) (Nat.lt_of_le_of_lt ?_ hz)
        rw [List.length_take, List.length_zipIdx]
        exact Nat.min_le_right _ _
      · rw [upd_same]
        show some (HO.lst (acc i ++ [f i b])) = some (HO.lst (((items.zipIdx.take (i + 1)).filter fun x => p x.1).map fun x => f x.2 x.1))
        rw [et, List.filter_append, List.map_append, List.filter_cons, if_pos hp]
        rfl
    · refine ⟨(S.trans S').trans S3, ?_⟩
      show H3 D = some (HO.lst (((items.zipIdx.take (i + 1)).filter fun x => p x.1).map fun x => f x.2 x.1))
      rw [et, List.filter_append, List.filter_cons, if_neg (by rw [hp]; decide), List.filter_nil, List.append_nil]
      exact S3 _ _ (S' _ _ hacc)
  · have e : i = xs.length := by omega
    subst e
    refine .inl ⟨⟨xs, q, Nat.le_refl _⟩, k D H S hD ?_⟩
    rw [hacc]
    show some (HO.lst (((items.zipIdx.take xs.length).filter fun x => p x.1).map fun x => f x.2 x.1)) = _
    rw [hn, List.take_of_length_le (by rw [List.length_zipIdx]; exact Nat.le_refl _)]
def vnats (l : List Nat) : List V := l.map fun n => V.int (n : Nat)
def bitsOf (s : Km439.Sea) : Nat := Km439.bits ((List.range s.boats.length).filter fun k => (s.boat k).left == 0)
/-- the boats that pass, by their places -/
theorem places (s : Km439.Sea) (p : Km439.Boat → Bool) : ((s.boats.zipIdx.filter fun x => p x.1).map fun x => V.int (x.2 : Nat)) = vnats ((List.range s.boats.length).filter fun k => p (s.boat k)) := by
  have e := range_filter_map (fun k (_ : Km439.Boat) => V.int (k : Nat)) p ⟨1, 1, 0, 0, false, 0⟩ s.boats
  rw [← e]
  rfl
theorem places_lt {s : Km439.Sea} (W : WF s) (p : Nat → Bool) : ∀ k, k ∈ (List.range s.boats.length).filter p → k < 4 := fun k hk => by
  have h1 := List.mem_range.mp (List.mem_filter.mp hk).1
  have h2 := W.nb
  omega
theorem places_len {s : Km439.Sea} (W : WF s) (p : Nat → Bool) : ((List.range s.boats.length).filter p).length ≤ 10 := by
  have h1 := List.length_filter_le p (List.range s.boats.length)
  rw [List.length_range] at h1
  have h2 := W.nb
  omega
def sp_one_if (K : PySem.W.Frag) (A : Ad) : Sp := fun vs H Q _ => ∃ b : Bool, vs = [.bl b] ∧ Q (.int (Km439.bit b : Nat)) H
theorem ok_one_if (T : Txt K mg A) : FnOk P w K mg base CX0 1 A.f_one_if A.d_one_if P_one_if (sp_one_if K A) := by
  refine T.F_one_if.ok sc_one_if (fun vs H Q E h => ?_) (fun cdv Ar outer s0 H vs Q E hr h => ?_)
  · obtain ⟨b, rfl, _⟩ := h
    rfl
  · obtain ⟨b, rfl, k⟩ := h
    refine ⟨_, (pss_one (ps_ret (pe_ifExp (pt_val (pv 0)) pe_int pe_int))), ?_⟩
    cases b with
    | true => exact ⟨_, rfl, _, rfl, iteT k⟩
    | false => exact ⟨_, rfl, _, rfl, iteF k⟩
def sp_as_bits (K : PySem.W.Frag) (A : Ad) : Sp := fun vs H Q _ => ∃ (q : Addr) (ks : List Nat), vs = [.ref q] ∧ SqL K H q (vnats ks) ∧ ks.length ≤ 10 ∧ (∀ k, k ∈ ks → k < 4) ∧ ∀ H', Same H H' → Q (.int (Km439.bits ks : Nat)) H'
theorem ok_as_bits (T : Txt K mg A) : FnOk P w K mg base CX0 1 A.f_as_bits A.d_as_bits P_as_bits (sp_as_bits K A) := by
  refine T.F_as_bits.ok sc_as_bits (fun vs H Q E h => ?_) (fun cdv Ar outer s0 H vs Q E hr h => ?_)
  · obtain ⟨q, ks, rfl, _⟩ := h
    rfl
  · obtain ⟨q, ks, rfl, hq, hl, hk, k⟩ := h
    refine ⟨_, (pss_one (ps_ret (pe_callB (cr_sum rfl) (by rfl) T.z_sum PyProof.Rows.boot_sum (pa_cons (pe_lc rfl sc_as_bits.nd (pi_list (pv 0)) (blkOk_by (N := N_as_bits) (sc := defScope s_as_bits) (own := [("b", 1)]) (by decide +kernel)) (fun _ _ _ _ _ => (pg_name (i := 1) sc_as_bits.nd rfl (by first | exact Or.inl rfl | exact Or.inr rfl))) (fun _ _ _ _ _ => pts_nil) (fun _ _ _ _ _ => (pe_op op_shl pe_int (pv 1)))) pa_nil)))), ?_⟩
    refine ⟨_, rfl, q, rfl, ⟨_, hq⟩, ?_⟩
    refine lc_map (items := ks) (p := fun _ => true) (f := fun i => V.int ((1 : Int) * 2 ^ i)) hq (by unfold vnats; rw [List.length_map]) (small10 hl) ?_ ?_
    · intro i x b H' hi hb S R N hR hN
      have ex : x = V.int (b : Nat) := by
        unfold vnats at hi
        rw [List.getElem?_map, hb] at hi
        exact (Option.some.inj hi).symm
      subst ex
      have hb4 := hk b (List.mem_of_getElem? hb)
      exact ⟨rfl, _, rfl, _, _, rfl, rfl, ⟨by omega, by omega, by decide⟩, hR rfl _ (Same.refl _)⟩
    · intro D H' S hD hD'
      refine ⟨D, (ks.filter fun _ => true).map fun i => (1 : Int) * 2 ^ i, rfl, SqL.of (by rw [hD', map_int]), ?_⟩
      rw [List.filter_eq_self.mpr fun _ _ => rfl, bits_int]
      exact k H' S
theorem inBoats_int (s : Km439.Sea) : ((s.boats.filter fun _ => true).map fun b : Km439.Boat => ((b.in_ : Nat) : Int)).sum = ((s.inBoats : Nat) : Int) :=
  sum_int (fun _ _ _ => rfl) (fun _ _ h => by cases h)
def sp_State_in_boats (K : PySem.W.Frag) (A : Ad) : Sp := fun vs H Q _ => ∃ (a : Addr) (s : Km439.Sea) (ok : Addr → Prop), vs = [.ref a] ∧ StAt A ok H a s ∧ WF s ∧ ∀ H', Same H H' → Q (.int (s.inBoats : Nat)) H'
theorem ok_State_in_boats (T : Txt K mg A) : FnOk P w K mg base CX0 1 A.f_State_in_boats A.d_State_in_boats P_State_in_boats (sp_State_in_boats K A) := by
  refine T.F_State_in_boats.ok sc_State_in_boats (fun vs H Q E h => ?_) (fun cdv Ar outer s0 H vs Q E hr h => ?_)
  · obtain ⟨a, s, ok, rfl, _⟩ := h
    rfl
  · obtain ⟨a, s, ok, rfl, ⟨dx, bl, ql, as, ts, X⟩, W, k⟩ := h
    refine ⟨_, (pss_one (ps_ret (pe_callB (cr_sum rfl) (by rfl) T.z_sum PyProof.Rows.boot_sum (pa_cons (pe_lc rfl sc_State_in_boats.nd (pi_list (pe_fld (pv 0) rfl)) (blkOk_by (N := N_State_in_boats) (sc := defScope s_State_in_boats) (own := [("boat", 1)]) (by decide +kernel)) (fun _ _ _ _ _ => (pg_name (i := 1) sc_State_in_boats.nd rfl (by first | exact Or.inl rfl | exact Or.inr rfl))) (fun _ _ _ _ _ => pts_nil) (fun _ _ _ _ _ => (pe_fldK (K := K) rfl (pv 1) rfl))) pa_nil)))), ?_⟩
    refine ⟨_, rfl, a, _, dx, _, _, rfl, X.st, T.cl_State, T.n_State_boats, sF_boats s bl ql, bl, rfl, ⟨_, SqL.of X.bs⟩, ?_⟩
    refine lc_map (items := s.boats) (p := fun _ => true) (f := fun b => V.int (b.in_ : Nat)) (SqL.of X.bs) (by rw [List.length_map, X.bn]) (small10 (Nat.le_trans W.nb (by decide))) ?_ ?_
    · intro i x b H' hi hb S R N hR hN
      obtain ⟨y, hy, rfl⟩ := map_ref_at hi
      obtain ⟨d, eb⟩ := (X.bo i y b hy hb).same S
      exact ⟨rfl, _, rfl, y, _, d, _, _, rfl, eb, T.cl_Boat, T.n_Boat_inside, bF_inside b, hR rfl _ (Same.refl _)⟩
    · intro D H' S hD hD'
      refine ⟨D, _, rfl, SqL.of (by rw [hD', map_int]), ?_⟩
      rw [inBoats_int]
      exact k H' S
/-- the sea while minutes go by: the first i boats are done -/
def seaAt (s : Km439.Sea) (n i : Nat) : Km439.Sea := { s with time := s.time + n, boats := (s.boats.take i).map (fun b => { b with left := b.left - n }) ++ s.boats.drop i }
theorem seaAt_next {s : Km439.Sea} {n i : Nat} {b : Km439.Boat} (h : s.boats[i]? = some b) : (seaAt s n i).boats[i]? = some b ∧ (seaAt s n i).set i { b with left := b.left - n } = seaAt s n (i + 1) := by
  have hi := lt_of_get h
  have hl : ((s.boats.take i).map (fun b : Km439.Boat => { b with left := b.left - n })).length = i := by rw [List.length_map, List.length_take]; omega
  have hd : s.boats.drop i = b :: s.boats.drop (i + 1) := by
    rw [List.drop_eq_getElem_cons hi]
    congr 1
    exact Option.some.inj ((List.getElem?_eq_getElem hi).symm.trans h)
  constructor
  · show ((s.boats.take i).map _ ++ s.boats.drop i)[i]? = _
    rw [List.getElem?_append_right (by omega), hl, hd, Nat.sub_self]
    rfl
  · unfold seaAt Km439.Sea.set
    show ({ s with time := s.time + n, boats := ((s.boats.take i).map _ ++ s.boats.drop i).set i _ } : Km439.Sea) = _
    rw [List.set_append_right _ _ (by omega), hl, Nat.sub_self, hd, List.set_cons_zero, List.take_succ, h, List.map_append]
    simp
def sp_bs_minutes (K : PySem.W.Frag) (A : Ad) : Sp := fun vs H Q _ => ∃ (a : Addr) (n : Nat), vs = [.ref a, .int n] ∧ Chg A H a (.minutes n) Q
theorem ok_bs_minutes (T : Txt K mg A) : FnOk P w K mg base CX0 2 A.f_bs_minutes A.d_bs_minutes P_bs_minutes (sp_bs_minutes K A) := by
  refine T.F_bs_minutes.ok sc_bs_minutes (fun vs H Q E h => ?_) (fun cdv Ar outer s0 H vs Q E hr h => ?_)
  · obtain ⟨a, n, rfl, _⟩ := h
    rfl
  · obtain ⟨a, n, rfl, H0, s, S, Y, W, q⟩ := h
    obtain ⟨dx, bl, ql, as, ts, X⟩ := id Y
    have R : (n = 0 ∨ 1440 < n) → ∀ p, H p = none → Q (.ref p) (upd H p (.lst [.int (-22)])) := fun c p hp => refuse S Y q (Same.refl _) (by simp only [Km439.act, if_pos c]) hp
    refine ⟨_, (pss_cons (ps_if (pt_not (pt_chain op_le op_le pe_int (pv 1) (pe_gi (by rfl) T.i_MOST_MINUTES_AT_ONCE))) (pss_one (ps_ret (pe_lst (pa_cons (pe_gi (by rfl) T.i_WRONG) pa_nil)))) pss_nil)
        (pss_cons (ps_if (pt_cmpR op_gt (pe_op op_add (pe_fld (pv 0) rfl) (pv 1)) (pe_gi (by rfl) T.i_LAST_MINUTE) (nomark _)) (pss_one (ps_ret (pe_lst (pa_cons (pe_gi (by rfl) T.i_TOO_LATE) pa_nil)))) pss_nil)
        (pss_cons (ps_fldaug (pv 0) (pv 1) in_add)
        (pss_cons (ps_for PassesOwn.never rfl (pi_list (pe_fld (pv 0) rfl)) (pg_name (i := 2) sc_bs_minutes.nd rfl (by first | exact Or.inl rfl | exact Or.inr rfl)) (pss_one (ps_fld (pv 2) (pe_callB (call_max2 rfl) (by rfl) T.z_max PyProof.Rows.boot_max (pa_cons pe_int (pa_cons (pe_op op_sub (pe_fld (pv 2) rfl) (pv 1)) pa_nil))) rfl)))
        (pss_cons (ps_setLc (i := 3) rfl sc_bs_minutes.nd rfl rfl (sw_true rfl rfl rfl rfl) (pi_enum (by rfl) T.z_enumerate (pa_cons (pe_fld (pv 0) rfl) pa_nil)) (blkOk_by (N := N_bs_minutes) (sc := defScope s_bs_minutes) (own := [("b", 4), ("boat", 2)]) (by decide +kernel)) (fun _ _ _ _ _ => (pg_tupK (K := K) (n := 2) rfl rfl (pgs_cons (pg_name (i := 4) sc_bs_minutes.nd rfl (by first | exact Or.inl rfl | exact Or.inr rfl)) (pgs_cons (pg_name (i := 2) sc_bs_minutes.nd rfl (by first | exact Or.inl rfl | exact Or.inr rfl)) pgs_nil)))) (fun _ _ _ _ _ => (pts_one (pt_not (pt_val (pe_meth0 (pv 2) T.cl_Boat T.m_Boat_is_on_its_way (ok_Boat_is_on_its_way T) (hr.mono (by decide)) (b_Boat_is_on_its_way T) .nil pass0))))) (fun _ _ _ _ _ => (pv 4)))
        (pss_one (ps_ret (pe_lst (pa_cons (pe_fld (pv 0) rfl) (pa_cons (pe_call (ok_as_bits T) (hr.mono (by decide)) rfl T.g_as_bits T.F_as_bits.kp (b_as_bits T) .nil pass0 (pa_cons (pv 3) pa_nil)) pa_nil)))))))))), ?_⟩
    refine ⟨_, rfl, _, _, rfl, rfl, _, rfl, ?_⟩
    by_cases a1 : n = 0
    · exact iteDn (by omega) ⟨_, rfl, iteT ⟨(by show 1 ≤ sizeLine; decide), R (by omega)⟩⟩
    refine iteD (by omega) ⟨_, _, rfl, rfl, _, rfl, ?_⟩
    by_cases a2 : 1440 < n
    · exact iteN (by omega) ⟨(by show 1 ≤ sizeLine; decide), R (by omega)⟩
    refine iteNS (by omega) ?_
    have c1 : ¬ (n = 0 ∨ 1440 < n) := by omega
    refine ⟨_, rfl, a, _, dx, _, _, rfl, X.st, T.cl_State, T.n_State_minute, sF_minute s bl ql, _, rfl, _, _, rfl, rfl, _, _, rfl, rfl, _, rfl, ?_⟩
    by_cases c2 : Km439.LATEST < s.time + n
    · have c2' : 100000 < s.time + n := c2
      refine iteD (by omega) ⟨(by show 1 ≤ sizeLine; decide), fun p hp => ?_⟩
      exact refuse S Y q (Same.refl _) (by simp only [Km439.act, if_neg c1, if_pos c2]) hp
    have c2' : ¬ 100000 < s.time + n := c2
    refine iteDn (by omega) ?_
    refine ⟨_, rfl, a, _, dx, _, _, rfl, X.st, T.cl_State, T.n_State_minute, sF_minute s bl ql, _, rfl, _, _, rfl, rfl, dx, _, X.st, (by show 9 < 1000; decide), ?_⟩
    have e1 : putF "minute" (.int (((s.time : Nat) : Int) + (n : Nat))) (sF s bl ql) = sF (seaAt s n 0) bl ql := by rw [sF_put_minute]; rfl
    rw [e1]
    have X1 := X.setS (s' := seaAt s n 0) (by show (s.boats.take 0).map _ ++ s.boats.drop 0 = s.boats; rw [List.take_zero, List.drop_zero]; rfl) rfl
    have S1 : Same H0 (upd H a (.ins A.c_State dx (sF (seaAt s n 0) bl ql))) := Same.put S X.oa _
    refine ⟨_, rfl, a, _, dx, _, _, rfl, X1.st, T.cl_State, T.n_State_boats, sF_boats _ bl ql, bl, rfl, ⟨_, SqL.of X1.bs⟩, ?_⟩
    refine for_list (K := K) (a := bl) (xs := as.map V.ref) (fun i σ H' => ∃ v : Option V, σ = [some (.ref a), some (.int (n : Nat)), v, none, none] ∧ Same H0 H' ∧ StX A (fr H0) H' a dx bl ql as ts (seaAt s n i)) ⟨none, rfl, S1, X1⟩ (fun i σ H' _ ⟨_, _, _, Z⟩ => SqL.of Z.bs) ?_ ?_
    · rintro i x σ H' hi ⟨v, rfl, S', Z⟩
      obtain ⟨y, hy, rfl⟩ := map_ref_at hi
      obtain ⟨b, hb⟩ : ∃ b, s.boats[i]? = some b := ⟨_, List.getElem?_eq_getElem (by have := lt_of_get hy; rw [X.bn] at this; exact this)⟩
      obtain ⟨h1, h2⟩ := seaAt_next (n := n) hb
      obtain ⟨d, eb⟩ := Z.bo i y b hy h1
      refine ⟨_, rfl, y, _, d, _, _, rfl, eb, T.cl_Boat, T.n_Boat_minutes_left, bF_minutes_left b, _, rfl, _, _, rfl, rfl, _, _, rfl, _, rfl, y, _, d, _, rfl, eb, T.cl_Boat, T.n_Boat_minutes_left, (by show 6 < 1000; decide), ?_⟩
      have em : (if ((b.left : Nat) : Int) - (n : Nat) > 0 then ((b.left : Nat) : Int) - (n : Nat) else 0) = ((b.left - n : Nat) : Int) := by
        split <;> omega
      rw [em]
      have e2 : putF "minutes_left" (.int ((b.left - n : Nat) : Int)) (bF b) = bF { b with left := b.left - n } := by rw [bF_put_minutes_left]; rfl
      rw [e2]
      have Z2 := Z.setB (b' := { b with left := b.left - n }) hy h1 eb
      rw [h2] at Z2
      exact ⟨_, rfl, Same.put S' (X.os y (List.mem_of_getElem? hy)) _, Z2⟩
    · rintro σ H2 ⟨v, rfl, S2, Z⟩
      have es : seaAt s n (as.map V.ref).length = s.minutes n := by
        rw [minutes_eq, List.length_map, X.bn]
        unfold seaAt
        rw [List.take_length, List.drop_length, List.append_nil]
      rw [es] at Z
      have Wn : WF (s.minutes n) := by
        have z := (chg_minutes ⟨s, [], []⟩ n).wf W
        have e : nxt s (.minutes n) = s.minutes n := by unfold nxt; simp only [Km439.act, if_neg c1, if_neg c2]; rfl
        rw [e] at z
        exact z
      refine ⟨_, rfl, a, _, dx, _, _, rfl, Z.st, T.cl_State, T.n_State_boats, sF_boats _ bl ql, bl, _, rfl, SqL.of Z.bs, ?_⟩
      refine lc_enum (items := (s.minutes n).boats) (p := fun b => b.left == 0) (f := fun i _ => V.int (i : Nat)) (SqL.of Z.bs) (by rw [List.length_map, Z.bn]) (small10 (Nat.le_trans Wn.nb (by decide))) ?_ ?_
      · intro i x b t H' hi hb S ht R N hR hN
        obtain ⟨y, hy, rfl⟩ := map_ref_at hi
        have Yb := (Z.bo i y b hy hb).same S
        obtain ⟨d, eb⟩ := id Yb
        refine ⟨t, _, rfl, SqT.of ht, rfl, _, _, rfl, _, _, rfl, rfl, rfl, _, rfl, y, d, _, rfl, eb, bF_no_is_on_its_way b, y, b, rfl, Yb, _, rfl, ?_⟩
        by_cases c : b.left = 0
        · refine iteN (by omega) ⟨_, rfl, ?_⟩
          exact hR (by show (b.left == 0) = true; rw [c]; rfl) _ (Same.refl _)
        · exact iteNS (by omega) (hN (by show (b.left == 0) = false; exact beq_eq_false_iff_ne.mpr c) _ (Same.refl _))
      · intro D H3 S3 hD hD'
        have Z3 := Z.same S3
        have hD' := hD'.trans (congrArg (fun z => some (HO.lst z)) (places (s.minutes n) fun b => b.left == 0))
        refine ⟨_, rfl, a, _, dx, _, _, rfl, Z3.st, T.cl_State, T.n_State_minute, sF_minute _ bl ql, _, rfl, D, _, rfl, SqL.of hD', places_len Wn _, places_lt Wn _, fun H4 S4 => ⟨(by show 2 ≤ sizeLine; decide), fun p hp => ?_⟩⟩
        exact doneC q (s' := s.minutes n) (an := ⟨(((s.minutes n).time : Nat) : Int), [bitsOf (s.minutes n)]⟩) (by simp only [Km439.act, if_neg c1, if_neg c2]; rfl) ((S2.trans S3).trans S4) (Z3.same S4).at_ hp rfl
end
end Bts

end
section
set_option Elab.async false
set_option linter.all false
set_option maxRecDepth 100000
set_option maxHeartbeats 4000000
namespace Bts
open PySem PySem.Spec PyProof.Rows L2
section
variable {P : Program} {w : World} {K : PySem.W.Frag} {mg : Str → Option Value} {base : Heap} {A : Ad}
theorem pair_app {α β : Type} {F : α → β → Prop} : ∀ {a a' : List α} {b b' : List β}, Paired F a b → Paired F a' b' → Paired F (a ++ a') (b ++ b')
  | _, _, _, _, .nil, s => s
  | _, _, _, _, .cons r t, s => .cons r (pair_app t s)
theorem pair_drop {α β : Type} {F : α → β → Prop} : ∀ {a : List α} {b : List β} (n : Nat), Paired F a b → Paired F (a.drop n) (b.drop n)
  | _, _, 0, h => h
  | _, _, _ + 1, .nil => .nil
  | _, _, n + 1, .cons _ t => pair_drop n t
theorem pair_imp {α β : Type} {F G : α → β → Prop} : ∀ {a : List α} {b : List β}, (∀ x y, F x y → G x y) → Paired F a b → Paired G a b
  | _, _, _, .nil => .nil
  | _, _, f, .cons r t => .cons (f _ _ r) (pair_imp f t)
theorem pair_len {α β : Type} {F : α → β → Prop} : ∀ {a : List α} {b : List β}, Paired F a b → a.length = b.length
  | _, _, .nil => rfl
  | _, _, .cons _ t => congrArg (· + 1) (pair_len t)
theorem pair_get {α β : Type} {F : α → β → Prop} : ∀ {a : List α} {b : List β} {i : Nat} {x : α} {y : β}, Paired F a b → a[i]? = some x → b[i]? = some y → F x y
  | _, _, _, _, _, .nil, h, _ => by simp at h
  | _, _, 0, _, _, .cons r t, h1, h2 => by
    rw [List.getElem?_cons_zero] at h1 h2
    cases h1
    cases h2
    exact r
  | _, _, i + 1, _, _, .cons r t, h1, h2 => by
    rw [List.getElem?_cons_succ] at h1 h2
    exact pair_get t h1 h2
/-! ### the calls that only tell -/
def sp_bs_where (K : PySem.W.Frag) (A : Ad) : Sp := fun vs H Q _ => ∃ (a : Addr) (k : Nat), vs = [.ref a, .int k] ∧ Ask A H a (.where_ k) Q
theorem ok_bs_where (T : Txt K mg A) : FnOk P w K mg base CX0 2 A.f_bs_where A.d_bs_where P_bs_where (sp_bs_where K A) := by
  refine T.F_bs_where.ok sc_bs_where (fun vs H Q E h => ?_) (fun cdv Ar outer s0 H vs Q E hr h => ?_)
  · obtain ⟨a, k, rfl, _⟩ := h
    rfl
  · obtain ⟨a, k, rfl, s, Y, W, q⟩ := h
    obtain ⟨dx, bl, ql, as, ts, X⟩ := id Y
    refine ⟨_, (pss_cons (ps_if (pt_not (pt_val (pe_meth (pv 0) T.cl_State T.m_State_has_boat (ok_State_has_boat T) (hr.mono (by decide)) (b_State_has_boat T) .nil pass0 (pa_cons (pv 1) pa_nil)))) (pss_one (ps_ret (pe_lst (pa_cons (pe_gi (by rfl) T.i_NONE_THERE) pa_nil)))) pss_nil)
        (pss_cons (ps_set (i := 2) sc_bs_where.nd rfl (by first | exact Or.inl rfl | exact Or.inr rfl) (pe_ix ix_list (pe_fld (pv 0) rfl) (pv 1) (fun _ _ => rfl)))
        (pss_one (ps_ret (pe_lst (pa_cons (pe_call (ok_one_if T) (hr.mono (by decide)) rfl T.g_one_if T.F_one_if.kp (b_one_if T) .nil pass0 (pa_cons (pe_fld (pv 2) rfl) pa_nil)) (pa_cons (pe_fld (pv 2) rfl) (pa_cons (pe_fld (pv 2) rfl) (pa_cons (pe_call (ok_one_if T) (hr.mono (by decide)) rfl T.g_one_if T.F_one_if.kp (b_one_if T) .nil pass0 (pa_cons (pe_meth (pv 0) T.cl_State T.m_State_may_go (ok_State_may_go T) (hr.mono (by decide)) (b_State_may_go T) .nil pass0 (pa_cons (pv 2) pa_nil)) pa_nil)) pa_nil))))))))), ?_⟩
    refine ⟨_, rfl, a, dx, _, rfl, X.st, sF_no_has_boat s bl ql, _, rfl, a, k, s, _, rfl, Y, _, rfl, ?_⟩
    cases e : s.boats[k]? with
    | none =>
      refine iteN (not_lt_get e) ⟨(by show 1 ≤ sizeLine; decide), fun p hp => ?_⟩
      exact toldA q (an := Km439.only (-2)) (by simp only [ans, Km439.act, e]) (Same.refl _) hp rfl
    | some b =>
      obtain ⟨x, hx, Yb⟩ := X.boat e
      obtain ⟨d, eb⟩ := id Yb
      refine iteNS (lt_of_get e) ?_
      refine ⟨_, rfl, a, _, dx, _, _, rfl, X.st, T.cl_State, T.n_State_boats, sF_boats s bl ql, _, rfl, bl, _, _, _, rfl, rfl, SqL.of X.bs, at_of rfl (get_ref hx), ?_⟩
      refine ⟨_, rfl, x, _, d, _, _, rfl, eb, T.cl_Boat, T.n_Boat_to_shore, bF_to_shore b, b.shore, rfl, _, rfl, x, _, d, _, _, rfl, eb, T.cl_Boat, T.n_Boat_minutes_left, bF_minutes_left b, _, rfl, x, _, d, _, _, rfl, eb, T.cl_Boat, T.n_Boat_inside, bF_inside b, _, rfl, a, dx, _, rfl, X.st, sF_no_may_go s bl ql, _, rfl, a, x, s, b, _, rfl, Y, Yb, s.may b, rfl, (by show 4 ≤ sizeLine; decide), fun p hp => ?_⟩
      exact toldA q (an := ⟨((Km439.bit b.shore : Nat) : Int), [b.left, b.in_, Km439.bit (s.may b)]⟩) (by simp only [ans, Km439.act, e]) (Same.refl _) hp rfl
def sp_bs_look (K : PySem.W.Frag) (A : Ad) : Sp := fun vs H Q _ => ∃ (a : Addr) (k : Nat), vs = [.ref a, .int k] ∧ Ask A H a (.look k) Q
theorem ok_bs_look (T : Txt K mg A) : FnOk P w K mg base CX0 2 A.f_bs_look A.d_bs_look P_bs_look (sp_bs_look K A) := by
  refine T.F_bs_look.ok sc_bs_look (fun vs H Q E h => ?_) (fun cdv Ar outer s0 H vs Q E hr h => ?_)
  · obtain ⟨a, k, rfl, _⟩ := h
    rfl
  · obtain ⟨a, k, rfl, s, Y, W, q⟩ := h
    obtain ⟨dx, bl, ql, as, ts, X⟩ := id Y
    refine ⟨_, (pss_cons (ps_if (pt_not (pt_val (pe_meth (pv 0) T.cl_State T.m_State_has_boat (ok_State_has_boat T) (hr.mono (by decide)) (b_State_has_boat T) .nil pass0 (pa_cons (pv 1) pa_nil)))) (pss_one (ps_ret (pe_lst (pa_cons (pe_gi (by rfl) T.i_NONE_THERE) pa_nil)))) pss_nil)
        (pss_cons (ps_set (i := 2) sc_bs_look.nd rfl (by first | exact Or.inl rfl | exact Or.inr rfl) (pe_ix ix_list (pe_fld (pv 0) rfl) (pv 1) (fun _ _ => rfl)))
        (pss_one (ps_ret (pe_lst (pa_cons (pe_fld (pv 2) rfl) (pa_cons (pe_fld (pv 2) rfl) (pa_cons (pe_fld (pv 2) rfl) pa_nil)))))))), ?_⟩
    refine ⟨_, rfl, a, dx, _, rfl, X.st, sF_no_has_boat s bl ql, _, rfl, a, k, s, _, rfl, Y, _, rfl, ?_⟩
    cases e : s.boats[k]? with
    | none =>
      refine iteN (not_lt_get e) ⟨(by show 1 ≤ sizeLine; decide), fun p hp => ?_⟩
      exact toldA q (an := Km439.only (-2)) (by simp only [ans, Km439.act, e]) (Same.refl _) hp rfl
    | some b =>
      obtain ⟨x, hx, Yb⟩ := X.boat e
      obtain ⟨d, eb⟩ := id Yb
      refine iteNS (lt_of_get e) ?_
      refine ⟨_, rfl, a, _, dx, _, _, rfl, X.st, T.cl_State, T.n_State_boats, sF_boats s bl ql, _, rfl, bl, _, _, _, rfl, rfl, SqL.of X.bs, at_of rfl (get_ref hx), ?_⟩
      refine ⟨_, rfl, x, _, d, _, _, rfl, eb, T.cl_Boat, T.n_Boat_seats, bF_seats b, _, rfl, x, _, d, _, _, rfl, eb, T.cl_Boat, T.n_Boat_way, bF_way b, _, rfl, x, _, d, _, _, rfl, eb, T.cl_Boat, T.n_Boat_most_swell, bF_most_swell b, (by show 3 ≤ sizeLine; decide), fun p hp => ?_⟩
      exact toldA q (an := ⟨((b.seats : Nat) : Int), [b.way, b.swell]⟩) (by simp only [ans, Km439.act, e]) (Same.refl _) hp rfl
def sp_bs_first (K : PySem.W.Frag) (A : Ad) : Sp := fun vs H Q _ => ∃ (a : Addr), vs = [.ref a] ∧ Ask A H a .first Q
theorem ok_bs_first (T : Txt K mg A) : FnOk P w K mg base CX0 1 A.f_bs_first A.d_bs_first P_bs_first (sp_bs_first K A) := by
  refine T.F_bs_first.ok sc_bs_first (fun vs H Q E h => ?_) (fun cdv Ar outer s0 H vs Q E hr h => ?_)
  · obtain ⟨a, rfl, _⟩ := h
    rfl
  · obtain ⟨a, rfl, s, Y, W, q⟩ := h
    obtain ⟨dx, bl, ql, as, ts, X⟩ := id Y
    refine ⟨_, (pss_cons (ps_if (pt_cmpR op_eq (pe_callB call_len_seq (by rfl) T.z_len PySem.boot_len (pa_cons (pe_fld (pv 0) rfl) pa_nil)) pe_int (nomark _)) (pss_one (ps_ret (pe_lst (pa_cons (pe_gi (by rfl) T.i_NO_ONE) pa_nil)))) pss_nil)
        (pss_cons (ps_set (i := 1) sc_bs_first.nd rfl (by first | exact Or.inl rfl | exact Or.inr rfl) (pe_ix ix_list (pe_fld (pv 0) rfl) pe_int (fun _ _ => rfl)))
        (pss_one (ps_ret (pe_lst (pa_cons (pe_ix ix_tup (pv 1) pe_int (fun _ _ => rfl)) (pa_cons (pe_ix ix_tup (pv 1) pe_int (fun _ _ => rfl)) pa_nil))))))), ?_⟩
    refine ⟨_, rfl, a, _, dx, _, _, rfl, X.st, T.cl_State, T.n_State_groups, sF_groups s bl ql, ql, _, rfl, .inl (SqL.of X.qs), rfl, _, rfl, ?_⟩
    have qn := X.qn
    cases e : s.queue with
    | nil =>
      rw [e] at qn
      refine iteD (by rw [List.length_map, qn]; rfl) ⟨(by show 1 ≤ sizeLine; decide), fun p hp => ?_⟩
      exact toldA q (an := Km439.only (-6)) (by simp only [ans, Km439.act, e]) (Same.refl _) hp rfl
    | cons g r =>
      rw [e, List.length_cons] at qn
      obtain ⟨t, ht⟩ : ∃ t, ts[0]? = some t := ⟨_, List.getElem?_eq_getElem (by omega)⟩
      have et := X.gr 0 t g ht (by rw [e]; rfl)
      refine iteDn (by intro z; have z := V.int.inj z; rw [List.length_map] at z; omega) ?_
      refine ⟨_, rfl, a, _, dx, _, _, rfl, X.st, T.cl_State, T.n_State_groups, sF_groups s bl ql, ql, _, _, _, rfl, rfl, SqL.of X.qs, at_of (j := 0) rfl (get_ref ht), ?_⟩
      refine ⟨_, rfl, t, _, _, _, rfl, rfl, SqT.of et, at_of (j := 0) rfl rfl, _, rfl, t, _, _, _, rfl, rfl, SqT.of et, at_of (j := 1) rfl rfl, (by show 2 ≤ sizeLine; decide), fun p hp => ?_⟩
      exact toldA q (an := ⟨((g.1 : Nat) : Int), [g.2]⟩) (by simp only [ans, Km439.act, e]) (Same.refl _) hp rfl
def sp_bs_fits (K : PySem.W.Frag) (A : Ad) : Sp := fun vs H Q _ => ∃ (a : Addr) (k : Nat), vs = [.ref a, .int k] ∧ Ask A H a (.fits k) Q
theorem ok_bs_fits (T : Txt K mg A) : FnOk P w K mg base CX0 3 A.f_bs_fits A.d_bs_fits P_bs_fits (sp_bs_fits K A) := by
  refine T.F_bs_fits.ok sc_bs_fits (fun vs H Q E h => ?_) (fun cdv Ar outer s0 H vs Q E hr h => ?_)
  · obtain ⟨a, k, rfl, _⟩ := h
    rfl
  · obtain ⟨a, k, rfl, s, Y, W, q⟩ := h
    obtain ⟨dx, bl, ql, as, ts, X⟩ := id Y
    refine ⟨_, (pss_cons (ps_if (pt_not (pt_val (pe_meth (pv 0) T.cl_State T.m_State_has_boat (ok_State_has_boat T) (hr.mono (by decide)) (b_State_has_boat T) .nil pass0 (pa_cons (pv 1) pa_nil)))) (pss_one (ps_ret (pe_lst (pa_cons (pe_gi (by rfl) T.i_NONE_THERE) pa_nil)))) pss_nil)
        (pss_cons (ps_set (i := 2) sc_bs_fits.nd rfl (by first | exact Or.inl rfl | exact Or.inr rfl) (pe_meth0 (pe_ix ix_list (pe_fld (pv 0) rfl) (pv 1) (fun _ _ => rfl)) T.cl_Boat T.m_Boat_seats_left (ok_Boat_seats_left T) (hr.mono (by decide)) (b_Boat_seats_left T) .nil pass0))
        (pss_cons (ps_set (i := 3) sc_bs_fits.nd rfl (by first | exact Or.inl rfl | exact Or.inr rfl) (pe_call (ok_groups_that_fit T) (hr.mono (by decide)) rfl T.g_groups_that_fit T.F_groups_that_fit.kp (b_groups_that_fit T) .nil pass0 (pa_cons (pe_fld (pv 0) rfl) (pa_cons (pv 2) pa_nil))))
        (pss_one (ps_ret (pe_lst (pa_cons (pv 3) (pa_cons (pe_call (ok_persons_of_first T) (hr.mono (by decide)) rfl T.g_persons_of_first T.F_persons_of_first.kp (b_persons_of_first T) .nil pass0 (pa_cons (pe_fld (pv 0) rfl) (pa_cons (pv 3) pa_nil))) (pa_cons (pv 2) pa_nil))))))))), ?_⟩
    refine ⟨_, rfl, a, dx, _, rfl, X.st, sF_no_has_boat s bl ql, _, rfl, a, k, s, _, rfl, Y, _, rfl, ?_⟩
    cases e : s.boats[k]? with
    | none =>
      refine iteN (not_lt_get e) ⟨(by show 1 ≤ sizeLine; decide), fun p hp => ?_⟩
      exact toldA q (an := Km439.only (-2)) (by simp only [ans, Km439.act, e]) (Same.refl _) hp rfl
    | some b =>
      obtain ⟨x, hx, Yb⟩ := X.boat e
      obtain ⟨d, eb⟩ := id Yb
      have wb := W.bo b (List.mem_of_getElem? e)
      have nq := W.nq
      refine iteNS (lt_of_get e) ?_
      have es : (((b.seats : Nat) : Int) - (b.in_ : Nat)) = ((b.seats - b.in_ : Nat) : Int) := (Int.natCast_sub wb.i).symm
      refine ⟨_, rfl, a, _, dx, _, _, rfl, X.st, T.cl_State, T.n_State_boats, sF_boats s bl ql, _, rfl, bl, _, _, _, rfl, rfl, SqL.of X.bs, at_of rfl (get_ref hx), x, d, _, rfl, eb, bF_no_seats_left b, x, b, rfl, Yb, ?_⟩
      dsimp only
      rw [es]
      refine ⟨_, rfl, a, _, dx, _, _, rfl, X.st, T.cl_State, T.n_State_groups, sF_groups s bl ql, _, rfl, ql, ts, s.queue, b.seats - b.in_, rfl, X.grAt, nq, fun H1 S1 => ?_⟩
      have X1 := X.same S1
      refine ⟨_, rfl, _, rfl, a, _, dx, _, _, rfl, X1.st, T.cl_State, T.n_State_groups, sF_groups s bl ql, _, rfl, ql, ts, s.queue, Km439.called s.queue (b.seats - b.in_), rfl, X1.grAt, nq, fun H2 S2 => ⟨_, rfl, (by show 3 ≤ sizeLine; decide), fun p hp => ?_⟩⟩
      exact toldA q (an := ⟨((Km439.called s.queue (b.seats - b.in_) : Nat) : Int), [Km439.persons (s.queue.take (Km439.called s.queue (b.seats - b.in_))), b.seats - b.in_]⟩) (by simp only [ans, Km439.act, e]) (S1.trans S2) hp rfl
def sp_bs_sums (K : PySem.W.Frag) (A : Ad) : Sp := fun vs H Q _ => ∃ (a : Addr), vs = [.ref a] ∧ Ask A H a .sums Q
theorem ok_bs_sums (T : Txt K mg A) : FnOk P w K mg base CX0 2 A.f_bs_sums A.d_bs_sums P_bs_sums (sp_bs_sums K A) := by
  refine T.F_bs_sums.ok sc_bs_sums (fun vs H Q E h => ?_) (fun cdv Ar outer s0 H vs Q E hr h => ?_)
  · obtain ⟨a, rfl, _⟩ := h
    rfl
  · obtain ⟨a, rfl, s, Y, W, q⟩ := h
    obtain ⟨dx, bl, ql, as, ts, X⟩ := id Y
    refine ⟨_, (pss_one (ps_ret (pe_lst (pa_cons (pe_fld (pv 0) rfl) (pa_cons (pe_meth0 (pv 0) T.cl_State T.m_State_in_boats (ok_State_in_boats T) (hr.mono (by decide)) (b_State_in_boats T) .nil pass0) (pa_cons (pe_fld (pv 0) rfl) (pa_cons (pe_fld (pv 0) rfl) (pa_cons (pe_fld (pv 0) rfl) (pa_cons (pe_meth0 (pv 0) T.cl_State T.m_State_waiting (ok_State_waiting T) (hr.mono (by decide)) (b_State_waiting T) .nil pass0) pa_nil))))))))), ?_⟩
    refine ⟨_, rfl, a, _, dx, _, _, rfl, X.st, T.cl_State, T.n_State_on_ship, sF_on_ship s bl ql, _, rfl, a, dx, _, rfl, X.st, sF_no_in_boats s bl ql, a, s, _, rfl, Y, W, fun H1 S1 => ?_⟩
    have X1 := X.same S1
    refine ⟨_, rfl, a, _, dx, _, _, rfl, X1.st, T.cl_State, T.n_State_on_shore, sF_on_shore s bl ql, _, rfl, a, _, dx, _, _, rfl, X1.st, T.cl_State, T.n_State_times_gone, sF_times_gone s bl ql, _, rfl, a, _, dx, _, _, rfl, X1.st, T.cl_State, T.n_State_tickets_given, sF_tickets_given s bl ql, _, rfl, a, dx, _, rfl, X1.st, sF_no_waiting s bl ql, a, s, _, rfl, Y.same S1, W, fun H2 S2 => ⟨(by show 6 ≤ sizeLine; decide), fun p hp => ?_⟩⟩
    exact toldA q (an := ⟨((s.ship : Nat) : Int), [s.inBoats, s.shore, s.ways, s.tickets, Km439.persons s.queue]⟩) rfl (S1.trans S2) hp rfl
def sp_bs_all (K : PySem.W.Frag) (A : Ad) : Sp := fun vs H Q _ => ∃ (a : Addr), vs = [.ref a] ∧ Ask A H a .all Q
theorem ok_bs_all (T : Txt K mg A) : FnOk P w K mg base CX0 2 A.f_bs_all A.d_bs_all P_bs_all (sp_bs_all K A) := by
  refine T.F_bs_all.ok sc_bs_all (fun vs H Q E h => ?_) (fun cdv Ar outer s0 H vs Q E hr h => ?_)
  · obtain ⟨a, rfl, _⟩ := h
    rfl
  · obtain ⟨a, rfl, s, Y, W, q⟩ := h
    obtain ⟨dx, bl, ql, as, ts, X⟩ := id Y
    refine ⟨_, (pss_cons (ps_set (i := 1) sc_bs_all.nd rfl (by first | exact Or.inl rfl | exact Or.inr rfl) (pe_and (pe_cmpR op_eq (pe_fld (pv 0) rfl) pe_int (nomark _)) (pe_one (pe_cmpR op_eq (pe_meth0 (pv 0) T.cl_State T.m_State_in_boats (ok_State_in_boats T) (hr.mono (by decide)) (b_State_in_boats T) .nil pass0) pe_int (nomark _)))))
        (pss_one (ps_ret (pe_lst (pa_cons (pe_call (ok_one_if T) (hr.mono (by decide)) rfl T.g_one_if T.F_one_if.kp (b_one_if T) .nil pass0 (pa_cons (pv 1) pa_nil)) (pa_cons (pe_fld (pv 0) rfl) (pa_cons (pe_meth0 (pv 0) T.cl_State T.m_State_in_boats (ok_State_in_boats T) (hr.mono (by decide)) (b_State_in_boats T) .nil pass0) (pa_cons (pe_fld (pv 0) rfl) pa_nil)))))))), ?_⟩
    refine ⟨_, rfl, a, _, dx, _, _, rfl, X.st, T.cl_State, T.n_State_on_shore, sF_on_shore s bl ql, rfl, _, rfl, ?_⟩
    have fin : ∀ (c : Bool) (H1 : Hp), c = (s.shore == 0 && s.inBoats == 0) → Same H H1 → ∀ (H2 : Hp), Same H1 H2 → ∀ p, H2 p = none → Q (.ref p) (upd H2 p (.lst [.int (Km439.bit c : Nat), .int (s.ship : Nat), .int (s.inBoats : Nat), .int (s.shore : Nat)])) := fun c H1 ec S1 H2 S2 p hp => by
      subst ec
      exact toldA q (an := ⟨((Km439.bit (s.shore == 0 && s.inBoats == 0) : Nat) : Int), [s.ship, s.inBoats, s.shore]⟩) rfl (S1.trans S2) hp rfl
    by_cases c1 : s.shore = 0
    · refine iteD (by rw [c1]; rfl) ?_
      refine ⟨_, rfl, a, dx, _, rfl, X.st, sF_no_in_boats s bl ql, a, s, _, rfl, Y, W, fun H1 S1 => ⟨rfl, ?_⟩⟩
      have X1 := X.same S1
      refine ⟨_, rfl, _, rfl, _, rfl, a, _, dx, _, _, rfl, X1.st, T.cl_State, T.n_State_on_ship, sF_on_ship s bl ql, _, rfl, a, dx, _, rfl, X1.st, sF_no_in_boats s bl ql, a, s, _, rfl, Y.same S1, W, fun H2 S2 => ?_⟩
      have X2 := X1.same S2
      refine ⟨_, rfl, a, _, dx, _, _, rfl, X2.st, T.cl_State, T.n_State_on_shore, sF_on_shore s bl ql, (by show 4 ≤ sizeLine; decide), fun p hp => ?_⟩
      refine fin (decide (V.int (s.inBoats : Nat) = V.int 0)) H1 ?_ S1 H2 S2 p hp
      rw [c1]
      by_cases c2 : s.inBoats = 0
      · rw [c2]; rfl
      · rw [beq_eq_false_iff_ne.mpr c2]
        exact decide_eq_false (by intro z; have z := V.int.inj z; omega)
    · refine iteDn (by intro z; have z := V.int.inj z; omega) ?_
      refine ⟨_, rfl, false, rfl, _, rfl, a, _, dx, _, _, rfl, X.st, T.cl_State, T.n_State_on_ship, sF_on_ship s bl ql, _, rfl, a, dx, _, rfl, X.st, sF_no_in_boats s bl ql, a, s, _, rfl, Y, W, fun H2 S2 => ?_⟩
      have X2 := X.same S2
      refine ⟨_, rfl, a, _, dx, _, _, rfl, X2.st, T.cl_State, T.n_State_on_shore, sF_on_shore s bl ql, (by show 4 ≤ sizeLine; decide), fun p hp => ?_⟩
      refine fin false H ?_ (Same.refl _) H2 S2 p hp
      rw [beq_eq_false_iff_ne.mpr c1]
      rfl
def sp_bs_may (K : PySem.W.Frag) (A : Ad) : Sp := fun vs H Q _ => ∃ (a : Addr), vs = [.ref a] ∧ Ask A H a .may Q
theorem ok_bs_may (T : Txt K mg A) : FnOk P w K mg base CX0 2 A.f_bs_may A.d_bs_may P_bs_may (sp_bs_may K A) := by
  refine T.F_bs_may.ok sc_bs_may (fun vs H Q E h => ?_) (fun cdv Ar outer s0 H vs Q E hr h => ?_)
  · obtain ⟨a, rfl, _⟩ := h
    rfl
  · obtain ⟨a, rfl, s, Y, W, q⟩ := h
    obtain ⟨dx, bl, ql, as, ts, X⟩ := id Y
    refine ⟨_, (pss_cons (ps_setLc (i := 1) rfl sc_bs_may.nd rfl rfl (sw_true rfl rfl rfl rfl) (pi_enum (by rfl) T.z_enumerate (pa_cons (pe_fld (pv 0) rfl) pa_nil)) (blkOk_by (N := N_bs_may) (sc := defScope s_bs_may) (own := [("b", 2), ("boat", 3)]) (by decide +kernel)) (fun _ _ _ _ _ => (pg_tupK (K := K) (n := 2) rfl rfl (pgs_cons (pg_name (i := 2) sc_bs_may.nd rfl (by first | exact Or.inl rfl | exact Or.inr rfl)) (pgs_cons (pg_name (i := 3) sc_bs_may.nd rfl (by first | exact Or.inl rfl | exact Or.inr rfl)) pgs_nil)))) (fun _ _ _ _ _ => (pts_one (pt_val (pe_meth (pv 0) T.cl_State T.m_State_may_go (ok_State_may_go T) (hr.mono (by decide)) (b_State_may_go T) .nil pass0 (pa_cons (pv 3) pa_nil))))) (fun _ _ _ _ _ => (pv 2)))
        (pss_one (ps_ret (pe_lst (pa_cons (pe_callB call_len_seq (by rfl) T.z_len PySem.boot_len (pa_cons (pv 1) pa_nil)) (pa_cons (pe_call (ok_as_bits T) (hr.mono (by decide)) rfl T.g_as_bits T.F_as_bits.kp (b_as_bits T) .nil pass0 (pa_cons (pv 1) pa_nil)) (pa_cons (pe_fld (pv 0) rfl) pa_nil))))))), ?_⟩
    refine ⟨_, rfl, a, _, dx, _, _, rfl, X.st, T.cl_State, T.n_State_boats, sF_boats s bl ql, bl, _, rfl, SqL.of X.bs, ?_⟩
    refine lc_enum (items := s.boats) (p := fun b => s.may b) (f := fun i _ => V.int (i : Nat)) (SqL.of X.bs) (by rw [List.length_map, X.bn]) (small10 (Nat.le_trans W.nb (by decide))) ?_ ?_
    · intro i x b t H' hi hb S ht R N hR hN
      obtain ⟨y, hy, rfl⟩ := map_ref_at hi
      have Yb := (X.bo i y b hy hb).same S
      obtain ⟨d, eb⟩ := id Yb
      refine ⟨t, _, rfl, SqT.of ht, rfl, _, _, rfl, _, _, rfl, rfl, rfl, _, rfl, a, dx, _, rfl, S _ _ X.st, sF_no_may_go s bl ql, _, rfl, a, y, s, b, _, rfl, Y.same S, Yb, _, rfl, ?_⟩
      refine ite2 (fun c => ?_) (fun c => ?_)
      · exact ⟨_, rfl, hR c _ (Same.refl _)⟩
      · exact hN (Bool.eq_false_iff.mpr c) _ (Same.refl _)
    · intro D H1 S1 hD hD'
      have X1 := X.same S1
      have hD' := hD'.trans (congrArg (fun z => some (HO.lst z)) (places s fun b => s.may b))
      refine ⟨_, rfl, D, _, rfl, .inl (SqL.of hD'), _, rfl, D, _, rfl, SqL.of hD', places_len W _, places_lt W _, fun H2 S2 => ?_⟩
      refine ⟨_, rfl, a, _, dx, _, _, rfl, (X1.same S2).st, T.cl_State, T.n_State_swell, sF_swell s bl ql, (by show 3 ≤ sizeLine; decide), fun p hp => ?_⟩
      refine toldA q (an := ⟨((((List.range s.boats.length).filter fun k => s.may (s.boat k)).length : Nat) : Int), [Km439.bits ((List.range s.boats.length).filter fun k => s.may (s.boat k)), s.swell]⟩) rfl (S1.trans S2) hp ?_
      unfold vnats
      rw [List.length_map]
      rfl
theorem greatest_max (s : Km439.Sea) {m : Int} (h1 : m ∈ (s.boats.filter fun b => s.may b).map fun b => ((b.seats : Nat) : Int)) (h2 : ∀ y, y ∈ (s.boats.filter fun b => s.may b).map (fun b => ((b.seats : Nat) : Int)) → y ≤ m) : m = ((s.greatest : Nat) : Int) := by
  unfold Km439.Sea.greatest
  exact max_int (fun b _ h => by rw [if_pos h]) (fun b _ h => by rw [if_neg (by rw [h]; decide)]) h1 h2
theorem greatest_none (s : Km439.Sea) (h : (s.boats.filter fun b => s.may b) = []) : s.greatest = 0 := by
  unfold Km439.Sea.greatest
  exact max_none (p := fun b => s.may b) (f := fun b : Km439.Boat => ((b.seats : Nat) : Int)) (fun b _ h => by rw [if_neg (by rw [h]; decide)]) (by rw [h]; rfl)
def sp_bs_fewest (K : PySem.W.Frag) (A : Ad) : Sp := fun vs H Q _ => ∃ (a : Addr) (n : Nat), vs = [.ref a, .int n] ∧ Ask A H a (.fewest n) Q
theorem ok_bs_fewest (T : Txt K mg A) : FnOk P w K mg base CX0 2 A.f_bs_fewest A.d_bs_fewest P_bs_fewest (sp_bs_fewest K A) := by
  refine T.F_bs_fewest.ok sc_bs_fewest (fun vs H Q E h => ?_) (fun cdv Ar outer s0 H vs Q E hr h => ?_)
  · obtain ⟨a, n, rfl, _⟩ := h
    rfl
  · obtain ⟨a, n, rfl, s, Y, W, q⟩ := h
    obtain ⟨dx, bl, ql, as, ts, X⟩ := id Y
    refine ⟨_, (pss_cons (ps_if (pt_cmpR op_gt (pv 1) (pe_gi (by rfl) T.i_MOST_PERSONS) (nomark _)) (pss_one (ps_ret (pe_lst (pa_cons (pe_gi (by rfl) T.i_WRONG) pa_nil)))) pss_nil)
        (pss_cons (ps_setLc (i := 2) rfl sc_bs_fewest.nd rfl rfl (sw_true rfl rfl rfl rfl) (pi_list (pe_fld (pv 0) rfl)) (blkOk_by (N := N_bs_fewest) (sc := defScope s_bs_fewest) (own := [("boat", 4)]) (by decide +kernel)) (fun _ _ _ _ _ => (pg_name (i := 4) sc_bs_fewest.nd rfl (by first | exact Or.inl rfl | exact Or.inr rfl))) (fun _ _ _ _ _ => (pts_one (pt_val (pe_meth (pv 0) T.cl_State T.m_State_may_go (ok_State_may_go T) (hr.mono (by decide)) (b_State_may_go T) .nil pass0 (pa_cons (pv 4) pa_nil))))) (fun _ _ _ _ _ => (pe_fldK (K := K) rfl (pv 4) rfl)))
        (pss_cons (ps_if (pt_cmpR op_eq (pe_callB call_len_seq (by rfl) T.z_len PySem.boot_len (pa_cons (pv 2) pa_nil)) pe_int (nomark _)) (pss_one (ps_ret (pe_lst (pa_cons (pe_gi (by rfl) T.i_NEVER) pa_nil)))) pss_nil)
        (pss_cons (ps_set (i := 3) sc_bs_fewest.nd rfl (by first | exact Or.inl rfl | exact Or.inr rfl) (pe_callB (cr_max rfl) (by rfl) T.z_max PyProof.Rows.boot_max (pa_cons (pv 2) pa_nil)))
        (pss_one (ps_ret (pe_lst (pa_cons (pe_op op_fdiv (pe_op op_sub (pe_op op_add (pv 1) (pv 3)) pe_int) (pv 3)) pa_nil)))))))), ?_⟩
    refine ⟨_, rfl, _, _, rfl, rfl, _, rfl, ?_⟩
    by_cases c : Km439.PERSONS < n
    · have c' : 5000 < n := c
      refine iteD (by omega) ⟨(by show 1 ≤ sizeLine; decide), fun p hp => ?_⟩
      exact toldA q (an := Km439.only (-22)) (by simp only [ans, Km439.act, if_pos c]) (Same.refl _) hp rfl
    have c' : ¬ 5000 < n := c
    refine iteDn (by omega) ?_
    refine ⟨_, rfl, a, _, dx, _, _, rfl, X.st, T.cl_State, T.n_State_boats, sF_boats s bl ql, bl, rfl, ⟨_, SqL.of X.bs⟩, ?_⟩
    refine lc_map (items := s.boats) (p := fun b => s.may b) (f := fun b => V.int (b.seats : Nat)) (SqL.of X.bs) (by rw [List.length_map, X.bn]) (small10 (Nat.le_trans W.nb (by decide))) ?_ ?_
    · intro i x b H' hi hb S R N hR hN
      obtain ⟨y, hy, rfl⟩ := map_ref_at hi
      have Yb := (X.bo i y b hy hb).same S
      obtain ⟨d, eb⟩ := id Yb
      refine ⟨rfl, _, rfl, a, dx, _, rfl, S _ _ X.st, sF_no_may_go s bl ql, _, rfl, a, y, s, b, _, rfl, Y.same S, Yb, _, rfl, ?_⟩
      refine ite2 (fun c => ?_) (fun c => ?_)
      · exact ⟨_, rfl, y, _, d, _, _, rfl, eb, T.cl_Boat, T.n_Boat_seats, bF_seats b, hR c _ (Same.refl _)⟩
      · exact hN (Bool.eq_false_iff.mpr c) _ (Same.refl _)
    · intro D H1 S1 hD hD'
      rw [map_int] at hD'
      refine ⟨_, rfl, D, _, rfl, .inl (SqL.of hD'), rfl, _, rfl, ?_⟩
      by_cases c2 : (s.boats.filter fun b => s.may b) = []
      · refine iteD (by rw [c2]; rfl) ⟨(by show 1 ≤ sizeLine; decide), fun p hp => ?_⟩
        exact toldA q (an := Km439.only (-33)) (by simp only [ans, Km439.act, if_neg c, if_pos (greatest_none s c2)]) S1 hp rfl
      have hpos : 0 < ((s.boats.filter fun b => s.may b).map fun b => ((b.seats : Nat) : Int)).length := by rw [List.length_map]; exact List.length_pos_iff.mpr c2
      refine iteDn (by intro z; have z := V.int.inj z; rw [List.length_map] at z; omega) ?_
      refine ⟨_, rfl, D, _, rfl, SqL.of hD', hpos, fun m h1 h2 => ?_⟩
      have em := greatest_max s h1 h2
      obtain ⟨b, hb, eb⟩ := List.mem_map.mp h1
      have wb := W.bo b (List.mem_filter.mp hb).1
      have w1 := wb.s1
      have w2 := wb.s2
      subst em
      have g0 : ¬ s.greatest = 0 := by omega
      refine ⟨_, rfl, _, rfl, _, _, rfl, rfl, _, _, rfl, rfl, _, rfl, _, _, rfl, rfl, ⟨by omega, by omega⟩, (by show 1 ≤ sizeLine; decide), fun p hp => ?_⟩
      refine toldA q (an := Km439.only (((n + s.greatest - 1) / s.greatest : Nat) : Int)) (by simp only [ans, Km439.act, if_neg c, if_neg g0]) S1 hp ?_
      show [V.int ((((n : Nat) : Int) + (s.greatest : Nat) - 1) / (s.greatest : Nat))] = [V.int (((n + s.greatest - 1) / s.greatest : Nat) : Int)]
      rw [Int.natCast_ediv, Int.natCast_sub (by omega), Int.natCast_add]
      rfl
def sp_bs_place (K : PySem.W.Frag) (A : Ad) : Sp := fun vs H Q _ => ∃ (a : Addr) (k : Nat), vs = [.ref a, .int k] ∧ Ask A H a (.place k) Q
theorem flat_ints (l : List (Nat × Nat)) : (l.map fun g => V.int (g.1 : Nat)).all flatV = true := by
  rw [List.all_map]
  exact List.all_eq_true.mpr fun _ _ => rfl
theorem inV_ints (k : Nat) (l : List (Nat × Nat)) : inV (V.int (k : Nat)) (l.map fun g => V.int (g.1 : Nat)) = l.any fun g => g.1 == k := by
  unfold inV
  rw [List.any_map]
  congr 1
  funext g
  show (((g.1 : Nat) : Int) == ((k : Nat) : Int)) = (g.1 == k)
  by_cases h : g.1 = k
  · rw [h, beq_self_eq_true, beq_self_eq_true]
  · rw [beq_eq_false_iff_ne.mpr h, beq_eq_false_iff_ne.mpr (by omega)]
theorem ok_bs_place (T : Txt K mg A) : FnOk P w K mg base CX0 2 A.f_bs_place A.d_bs_place P_bs_place (sp_bs_place K A) := by
  refine T.F_bs_place.ok sc_bs_place (fun vs H Q E h => ?_) (fun cdv Ar outer s0 H vs Q E hr h => ?_)
  · obtain ⟨a, k, rfl, _⟩ := h
    rfl
  · obtain ⟨a, k, rfl, s, Y, W, q⟩ := h
    obtain ⟨dx, bl, ql, as, ts, X⟩ := id Y
    have nq := W.nq
    refine ⟨_, (pss_cons (ps_setLc (i := 2) rfl sc_bs_place.nd rfl rfl (sw_true rfl rfl rfl rfl) (pi_list (pe_fld (pv 0) rfl)) (blkOk_by (N := N_bs_place) (sc := defScope s_bs_place) (own := [("ticket", 4), ("persons", 5)]) (by decide +kernel)) (fun _ _ _ _ _ => (pg_tupK (K := K) (n := 2) rfl rfl (pgs_cons (pg_name (i := 4) sc_bs_place.nd rfl (by first | exact Or.inl rfl | exact Or.inr rfl)) (pgs_cons (pg_name (i := 5) sc_bs_place.nd rfl (by first | exact Or.inl rfl | exact Or.inr rfl)) pgs_nil)))) (fun _ _ _ _ _ => pts_nil) (fun _ _ _ _ _ => (pv 4)))
        (pss_cons (ps_if (pt_cmpR op_notIn_seq (pv 1) (pv 2) (by rfl)) (pss_one (ps_ret (pe_lst (pa_cons (pe_gi (by rfl) T.i_NONE_THERE) pa_nil)))) pss_nil)
        (pss_cons (ps_set (i := 3) sc_bs_place.nd rfl (by first | exact Or.inl rfl | exact Or.inr rfl) (pe_bm PySem.F.plainAttrs_list PySem.F.slot_list_index PySem.F.type_list_index mt_index (pv 2) (pa_cons (pv 1) pa_nil)))
        (pss_one (ps_ret (pe_lst (pa_cons (pv 3) (pa_cons (pe_ix ix_tup (pe_ix ix_list (pe_fld (pv 0) rfl) (pv 3) (fun _ _ => rfl)) pe_int (fun _ _ => rfl)) (pa_cons (pe_call (ok_persons_of_first T) (hr.mono (by decide)) rfl T.g_persons_of_first T.F_persons_of_first.kp (b_persons_of_first T) .nil pass0 (pa_cons (pe_fld (pv 0) rfl) (pa_cons (pv 3) pa_nil))) pa_nil))))))))), ?_⟩
    refine ⟨_, rfl, a, _, dx, _, _, rfl, X.st, T.cl_State, T.n_State_groups, sF_groups s bl ql, ql, rfl, ⟨_, SqL.of X.qs⟩, ?_⟩
    refine lc_map (items := s.queue) (p := fun _ => true) (f := fun x => V.int (x.1 : Nat)) (SqL.of X.qs) (by rw [List.length_map, X.qn]) (small10 W.nq) ?_ ?_
    · intro i x g H' hi hg S' R N hR hN
      obtain ⟨t, ht, rfl⟩ := map_ref_at hi
      exact ⟨t, _, rfl, SqT.of (S' _ _ (X.gr i t g ht hg)), rfl, _, _, rfl, _, _, rfl, rfl, rfl, _, rfl, hR rfl _ (Same.refl _)⟩
    · intro D H1 S1 hD hD'
      rw [List.filter_eq_self.mpr fun _ _ => rfl] at hD'
      have X1 := X.same S1
      refine ⟨_, rfl, _, rfl, D, _, rfl, .inl (SqL.of hD'), rfl, flat_ints _, _, rfl, ?_⟩
      rw [inV_ints]
      cases e : (List.range s.queue.length).find? fun i => (s.queue.getD i (0, 0)).1 == k with
      | none =>
        have hn := List.find?_range_eq_none.mp e
        have ha : (s.queue.any fun g => g.1 == k) = false := by
          rw [List.any_eq_false]
          intro g hg
          obtain ⟨i, hi⟩ := List.getElem?_of_mem hg
          have z := hn i (lt_of_get hi)
          rw [getD_ix hi] at z
          simpa using z
        rw [ha]
        refine iteT ⟨(by show 1 ≤ sizeLine; decide), fun p hp => ?_⟩
        exact toldA q (an := Km439.only (-2)) (by simp only [ans, Km439.act, e]) S1 hp rfl
      | some i =>
        obtain ⟨h1, h2, h3⟩ := List.find?_range_eq_some.mp e
        have hil : i < s.queue.length := List.mem_range.mp h2
        obtain ⟨g, hg⟩ : ∃ g, s.queue[i]? = some g := ⟨_, List.getElem?_eq_getElem hil⟩
        obtain ⟨t, ht⟩ : ∃ t, ts[i]? = some t := ⟨_, List.getElem?_eq_getElem (by rw [X.qn]; exact hil)⟩
        rw [getD_ix hg] at h1
        have hk : g.1 = k := beq_iff_eq.mp h1
        have ha : (s.queue.any fun g => g.1 == k) = true := List.any_eq_true.mpr ⟨g, List.mem_of_getElem? hg, h1⟩
        rw [ha]
        refine iteF ?_
        refine ⟨_, rfl, .inl ⟨rfl, _, SqL.of hD'⟩, _, rfl, D, _, _, i, V.int (g.1 : Nat), rfl, rfl, SqL.of hD', rfl, flat_ints _, (by rw [List.getElem?_map, hg]; rfl), ?_, ?_, ?_⟩
        · show (((g.1 : Nat) : Int) == ((k : Nat) : Int)) = true
          rw [hk]
          exact beq_self_eq_true _
        · intro m z hm hz
          rw [List.getElem?_map] at hz
          obtain ⟨g', hg'⟩ : ∃ g', s.queue[m]? = some g' := ⟨_, List.getElem?_eq_getElem (by omega)⟩
          rw [hg'] at hz
          have hz : V.int (g'.1 : Nat) = z := Option.some.inj hz
          subst hz
          have w := h3 m hm
          rw [getD_ix hg'] at w
          have w : ¬ g'.1 = k := by simpa using w
          show (((g'.1 : Nat) : Int) == ((k : Nat) : Int)) = false
          exact beq_eq_false_iff_ne.mpr (by omega)
        have et := X1.gr i t g ht hg
        refine ⟨_, rfl, _, rfl, a, _, dx, _, _, rfl, X1.st, T.cl_State, T.n_State_groups, sF_groups s bl ql, _, rfl, ql, _, _, _, rfl, rfl, SqL.of X1.qs, at_of (j := i) rfl (get_ref ht), t, _, _, _, rfl, rfl, SqT.of et, at_of (j := 1) rfl rfl, ?_⟩
        refine ⟨_, rfl, a, _, dx, _, _, rfl, X1.st, T.cl_State, T.n_State_groups, sF_groups s bl ql, _, rfl, ql, ts, s.queue, i, rfl, X1.grAt, nq, fun H2 S2 => ⟨(by show 3 ≤ sizeLine; decide), fun p hp => ?_⟩⟩
        refine toldA q (an := ⟨((i : Nat) : Int), [g.2, Km439.persons (s.queue.take i)]⟩) ?_ (S1.trans S2) hp rfl
        simp only [ans, Km439.act, e]
        rw [getD_ix hg]
end
end Bts

end
section
set_option Elab.async false
set_option linter.all false
set_option maxRecDepth 100000
set_option maxHeartbeats 4000000
namespace Bts
open PySem PySem.Spec PyProof.Rows L2
section
variable {P : Program} {w : World} {K : PySem.W.Frag} {mg : Str → Option Value} {base : Heap} {A : Ad}
/-- a comprehension over enumerate(list) whose items are new tuples -/
theorem lc_enumT {α : Type} {a : Addr} {xs : List V} {items : List α} {p : α → Bool} {f : Nat → α → List V} {g : TG} {tt : TT} {te : TE} {vs : List Nat} {σ : L2.St} {H1 : Hp} {Qd : Addr → Hp → Prop} (hx : SqL K H1 a xs) (hn : xs.length = items.length) (hz : items.length < sizeLine)
    (turn : ∀ (i : Nat) (x : V) (b : α) (t : Addr) (H : Hp), xs[i]? = some x → items[i]? = some b → Same H1 H → H t = some (.tup [.int (i : Nat), x]) → ∀ (R : VK) (N : Hp → Prop), (p b = true → ∀ (H4 : Hp) (u : Addr), Same H H4 → H4 u = some (.tup (f i b)) → R (.ref u) H4) → (p b = false → ∀ H3, Same H H3 → N H3) →
      g (.ref t) (wipe σ vs) H fun σ2 H2 => wipe σ2 vs = wipe σ vs ∧ tt σ2 H2 fun c H3 => if c = true then te σ2 H3 R else N H3)
    (k : ∀ (D : Addr) (H' : Hp) (us : List Addr), Same H1 H' → H1 D = none → H' D = some (.lst (us.map V.ref)) → Paired (fun u x => H' u = some (.tup (f x.2 x.1))) us (items.zipIdx.filter fun x => p x.1) → Qd D H') :
    ∀ D, H1 D = none → ∃ W : Nat → Nat → Hp → Prop, (∃ m, W 0 m (upd H1 D (.lst []))) ∧ ∀ i m H, W i m H →
      ((Ite K a).stop i H ∧ Qd D H) ∨ ((Ite K a).go i H ∧ ∃ Nx : Hp → Prop, (∀ H', Nx H' → ∃ m', m' < m ∧ W (i + 1) m' H') ∧ ∀ x H', (Ite K a).yld i H x H' → g x (wipe σ vs) H' fun σ2 H2 => wipe σ2 vs = wipe σ vs ∧ tt σ2 H2 fun b H3 =>
        if b = true then te σ2 H3 fun y H4 => ∃ acc, H4 D = some (.lst acc) ∧ acc.length < sizeLine ∧ Nx (upd H4 D (.lst (acc ++ [y]))) else Nx H3) := by
  intro D hD
  let fl : Nat → List (α × Nat) := fun i => (items.zipIdx.take i).filter fun x => p x.1
  let Pr : Hp → Addr → α × Nat → Prop := fun H u x => H u = some (.tup (f x.2 x.1))
  refine ⟨fun i m H => m = xs.length - i ∧ i ≤ xs.length ∧ Same H1 H ∧ ∃ us : List Addr, H D = some (.lst (us.map V.ref)) ∧ Paired (Pr H) us (fl i), ⟨xs.length, rfl, Nat.zero_le _, Same.new hD _, [], upd_same, .nil⟩, ?_⟩
  rintro i m H ⟨rfl, hi, S, us, hus, hp0⟩
  have q : SqL K H a xs := S.seq hx
  by_cases hlt : i < xs.length
  · have hb : items[i]? = some (items[i]'(by omega)) := List.getElem?_eq_getElem (by omega)
    generalize (items[i]'(by omega)) = b at hb
    have hzi : items.zipIdx[i]? = some (b, i) := by rw [List.getElem?_zipIdx, hb]; simp
    have et : items.zipIdx.take (i + 1) = items.zipIdx.take i ++ [(b, i)] := by rw [List.take_succ, hzi]; rfl
    refine .inr ⟨⟨xs, xs[i], q, by simp [hlt]⟩, fun H' => Same H1 H' ∧ ∃ us : List Addr, H' D = some (.lst (us.map V.ref)) ∧ Paired (Pr H') us (fl (i + 1)), fun H' h => ⟨xs.length - (i + 1), by omega, rfl, hlt, h.1, h.2⟩, fun x H' y => ?_⟩
    obtain ⟨t, z, rfl, ht, rfl, hxs⟩ := y
    have S' := Same.new (H := H) ht (.tup [.int (i : Nat), z])
    refine turn i z b t _ (hxs xs q) hb (S.trans S') upd_same (fun y H4 => ∃ ac, H4 D = some (.lst ac) ∧ ac.length < sizeLine ∧ _) _ (fun hp H4 u S4 hu => ?_) (fun hp H3 S3 => ?_)
    · have hD4 := S4 _ _ (S' _ _ hus)
      refine ⟨_, hD4, ?_, Same.put ((S.trans S').trans S4) hD _, us ++ [u], ?_, ?_⟩
      · rw [List.length_map, pair_len hp0]
        refine Nat.lt_of_le_of_lt (List.length_filter_le _ _) (Nat.lt_of_le_of_lt ?_ hz)
        rw [List.length_take, List.length_zipIdx]
        exact Nat.min_le_right _ _
      · rw [upd_same, List.map_append]
        rfl
      · have up : ∀ {v : Addr} {x : α × Nat}, Pr H4 v x → Pr (upd H4 D (.lst (us.map V.ref ++ [.ref u]))) v x := fun {v x} e => by
          show (upd H4 D _) v = _
          rw [upd_ne (ne_of e hD4 (by intro q; cases q))]
          exact e
        show Paired _ (us ++ [u]) ((items.zipIdx.take (i + 1)).filter fun x => p x.1)
        rw [et, List.filter_append, List.filter_cons, if_pos hp]
        exact pair_app (pair_imp (fun v x (e : Pr H v x) => up (S4 _ _ (S' _ _ e))) hp0) (.cons (up hu) .nil)
    · refine ⟨(S.trans S').trans S3, us, S3 _ _ (S' _ _ hus), ?_⟩
      show Paired _ us ((items.zipIdx.take (i + 1)).filter fun x => p x.1)
      rw [et, List.filter_append, List.filter_cons, if_neg (by rw [hp]; decide), List.filter_nil, List.append_nil]
      exact pair_imp (fun v x (e : Pr H v x) => S3 _ _ (S' _ _ e)) hp0
  · have e : i = xs.length := by omega
    subst e
    refine .inl ⟨⟨xs, q, Nat.le_refl _⟩, k D H us S hD hus ?_⟩
    have e2 : fl xs.length = items.zipIdx.filter fun x => p x.1 := by
      show (items.zipIdx.take xs.length).filter _ = _
      rw [hn, List.take_of_length_le (by rw [List.length_zipIdx]; exact Nat.le_refl _)]
    rw [e2] at hp0
    exact hp0
/-! ### the boat that is there first -/
def nx (L : Nat → Nat) (r : Option (Nat × Nat)) (k : Nat) : Option (Nat × Nat) := if L k = 0 then r else match r with
  | none => some (k, L k)
  | some (j, t) => if L k < t then some (k, L k) else some (j, t)
def NxOk (L : Nat → Nat) (n : Nat) : Option (Nat × Nat) → Prop
  | none => ∀ k, k < n → L k = 0
  | some (k, t) => k < n ∧ t = L k ∧ t ≠ 0 ∧ ∀ j, j < n → L j ≠ 0 → t < L j ∨ t = L j ∧ k ≤ j
theorem nx_ok (L : Nat → Nat) : ∀ n, NxOk L n ((List.range n).foldl (nx L) none)
  | 0 => fun k hk => absurd hk (by omega)
  | n + 1 => by
    have ih := nx_ok L n
    rw [List.range_succ, List.foldl_append]
    show NxOk L (n + 1) (nx L _ n)
    cases e : (List.range n).foldl (nx L) none with
    | none =>
      rw [e] at ih
      unfold nx
      by_cases c : L n = 0
      · rw [if_pos c]
        intro k hk
        by_cases h : k = n
        · rw [h]; exact c
        · exact ih k (by omega)
      · rw [if_neg c]
        refine ⟨Nat.lt_succ_self _, rfl, c, fun j hj h0 => ?_⟩
        by_cases h : j = n
        · rw [h]; exact .inr ⟨rfl, Nat.le_refl _⟩
        · exact absurd (ih j (by omega)) h0
    | some r =>
      obtain ⟨k, t⟩ := r
      rw [e] at ih
      obtain ⟨h1, h2, h3, h4⟩ := ih
      unfold nx
      by_cases c : L n = 0
      · rw [if_pos c]
        refine ⟨by omega, h2, h3, fun j hj h0 => ?_⟩
        by_cases h : j = n
        · rw [h] at h0; exact absurd c h0
        · exact h4 j (by omega) h0
      · rw [if_neg c]
        show NxOk L (n + 1) (if L n < t then some (n, L n) else some (k, t))
        by_cases c2 : L n < t
        · rw [if_pos c2]
          refine ⟨Nat.lt_succ_self _, rfl, c, fun j hj h0 => ?_⟩
          by_cases h : j = n
          · rw [h]; exact .inr ⟨rfl, Nat.le_refl _⟩
          · have := h4 j (by omega) h0
            omega
        · rw [if_neg c2]
          refine ⟨by omega, h2, h3, fun j hj h0 => ?_⟩
          by_cases h : j = n
          · rw [h]; omega
          · exact h4 j (by omega) h0
theorem nx_is {L : Nat → Nat} {n k : Nat} (hk : k < n) (h0 : L k ≠ 0) (hm : ∀ j, j < n → L j ≠ 0 → L k < L j ∨ L k = L j ∧ k ≤ j) : (List.range n).foldl (nx L) none = some (k, L k) := by
  have h := nx_ok L n
  cases e : (List.range n).foldl (nx L) none with
  | none => rw [e] at h; exact absurd (h k hk) h0
  | some r =>
    obtain ⟨k', t⟩ := r
    rw [e] at h
    obtain ⟨h1, h2, h3, h4⟩ := h
    have a1 := h4 k hk h0
    have a2 := hm k' h1 (by omega)
    have ek : k' = k := by omega
    subst ek
    rw [h2]
theorem nx_no {L : Nat → Nat} {n : Nat} (h0 : ∀ k, k < n → L k = 0) : (List.range n).foldl (nx L) none = none := by
  have h := nx_ok L n
  cases e : (List.range n).foldl (nx L) none with
  | none => rfl
  | some r =>
    obtain ⟨k', t⟩ := r
    rw [e] at h
    obtain ⟨h1, h2, h3, h4⟩ := h
    exact absurd (h0 k' h1) (by omega)
theorem ans_next (s : Km439.Sea) : ans s .next = match (List.range s.boats.length).foldl (nx fun k => (s.boat k).left) none with
    | none => Km439.only (-6)
    | some (k, t) => ⟨((k : Nat) : Int), [t, Km439.bit (s.boat k).shore]⟩ := rfl
def onWay (b : Km439.Boat) : Bool := decide ((0 : Int) < (b.left : Nat))
def sp_bs_next (K : PySem.W.Frag) (A : Ad) : Sp := fun vs H Q _ => ∃ (a : Addr), vs = [.ref a] ∧ Ask A H a .next Q
theorem ok_bs_next (T : Txt K mg A) : FnOk P w K mg base CX0 2 A.f_bs_next A.d_bs_next P_bs_next (sp_bs_next K A) := by
  refine T.F_bs_next.ok sc_bs_next (fun vs H Q E h => ?_) (fun cdv Ar outer s0 H vs Q E hr h => ?_)
  · obtain ⟨a, rfl, _⟩ := h
    rfl
  · obtain ⟨a, rfl, s, Y, W, q⟩ := h
    obtain ⟨dx, bl, ql, as, ts, X⟩ := id Y
    refine ⟨_, (pss_cons (ps_setLc (i := 1) rfl sc_bs_next.nd rfl rfl (sw_true rfl rfl rfl rfl) (pi_enum (by rfl) T.z_enumerate (pa_cons (pe_fld (pv 0) rfl) pa_nil)) (blkOk_by (N := N_bs_next) (sc := defScope s_bs_next) (own := [("b", 4), ("boat", 5)]) (by decide +kernel)) (fun _ _ _ _ _ => (pg_tupK (K := K) (n := 2) rfl rfl (pgs_cons (pg_name (i := 4) sc_bs_next.nd rfl (by first | exact Or.inl rfl | exact Or.inr rfl)) (pgs_cons (pg_name (i := 5) sc_bs_next.nd rfl (by first | exact Or.inl rfl | exact Or.inr rfl)) pgs_nil)))) (fun _ _ _ _ _ => (pts_one (pt_val (pe_meth0 (pv 5) T.cl_Boat T.m_Boat_is_on_its_way (ok_Boat_is_on_its_way T) (hr.mono (by decide)) (b_Boat_is_on_its_way T) .nil pass0)))) (fun _ _ _ _ _ => (pe_tup (pa_cons (pe_fldK (K := K) rfl (pv 5) rfl) (pa_cons (pv 4) pa_nil)))))
        (pss_cons (ps_if (pt_cmpR op_eq (pe_callB call_len_seq (by rfl) T.z_len PySem.boot_len (pa_cons (pv 1) pa_nil)) pe_int (nomark _)) (pss_one (ps_ret (pe_lst (pa_cons (pe_gi (by rfl) T.i_NO_ONE) pa_nil)))) pss_nil)
        (pss_cons (ps_set (i := 2) sc_bs_next.nd rfl (by first | exact Or.inl rfl | exact Or.inr rfl) (pe_callB (cr_minT rfl (hu_of hr)) (by rfl) T.z_min PyProof.Rows.boot_min (pa_cons (pv 1) pa_nil)))
        (pss_cons (ps_set (i := 3) sc_bs_next.nd rfl (by first | exact Or.inl rfl | exact Or.inr rfl) (pe_ix ix_tup (pv 2) pe_int (fun _ _ => rfl)))
        (pss_one (ps_ret (pe_lst (pa_cons (pv 3) (pa_cons (pe_ix ix_tup (pv 2) pe_int (fun _ _ => rfl)) (pa_cons (pe_call (ok_one_if T) (hr.mono (by decide)) rfl T.g_one_if T.F_one_if.kp (b_one_if T) .nil pass0 (pa_cons (pe_fld (pe_ix ix_list (pe_fld (pv 0) rfl) (pv 3) (fun _ _ => rfl)) rfl) pa_nil)) pa_nil)))))))))), ?_⟩
    refine ⟨_, rfl, a, _, dx, _, _, rfl, X.st, T.cl_State, T.n_State_boats, sF_boats s bl ql, bl, _, rfl, SqL.of X.bs, ?_⟩
    refine lc_enumT (items := s.boats) (p := onWay) (f := fun i b => [V.int (b.left : Nat), V.int (i : Nat)]) (SqL.of X.bs) (by rw [List.length_map, X.bn]) (small10 (Nat.le_trans W.nb (by decide))) ?_ ?_
    · intro i x b t H' hi hb S ht R N hR hN
      obtain ⟨y, hy, rfl⟩ := map_ref_at hi
      have Yb := (X.bo i y b hy hb).same S
      obtain ⟨d, eb⟩ := id Yb
      refine ⟨t, _, rfl, SqT.of ht, rfl, _, _, rfl, _, _, rfl, rfl, rfl, _, rfl, y, d, _, rfl, eb, bF_no_is_on_its_way b, y, b, rfl, Yb, _, rfl, ?_⟩
      refine ite2 (fun c => ?_) (fun c => ?_)
      · refine ⟨_, rfl, y, _, d, _, _, rfl, eb, T.cl_Boat, T.n_Boat_minutes_left, bF_minutes_left b, _, rfl, (by show 2 ≤ sizeLine; decide), fun u hu => ?_⟩
        exact hR c _ u (Same.new hu _) upd_same
      · exact hN (Bool.eq_false_iff.mpr c) _ (Same.refl _)
    · intro D H1 us S1 hD hD' hP
      have X1 := X.same S1
      have hlen := pair_len hP
      have of_list : ∀ {b : Km439.Boat} {k : Nat}, (b, k) ∈ (s.boats.zipIdx.filter fun x => onWay x.1) → s.boats[k]? = some b ∧ b.left ≠ 0 := fun {b k} hm => by
        obtain ⟨m1, m2⟩ := List.mem_filter.mp hm
        have m2 : (0 : Int) < (b.left : Nat) := of_decide_eq_true m2
        exact ⟨List.mem_zipIdx_iff_getElem?.mp m1, by omega⟩
      have to_list : ∀ {k : Nat}, k < s.boats.length → (s.boat k).left ≠ 0 → (s.boat k, k) ∈ (s.boats.zipIdx.filter fun x => onWay x.1) := fun {k} hk h0 => by
        refine List.mem_filter.mpr ⟨List.mem_zipIdx_iff_getElem?.mpr ?_, decide_eq_true (by show (0 : Int) < ((s.boat k).left : Nat); omega)⟩
        have e := List.getElem?_eq_getElem hk
        rw [e]
        congr 1
        exact (getD_ix e).symm
      refine ⟨_, rfl, D, _, rfl, .inl (SqL.of hD'), rfl, _, rfl, ?_⟩
      by_cases c : (s.boats.zipIdx.filter fun x => onWay x.1) = []
      · rw [c] at hlen
        refine iteD (by rw [List.length_map, hlen]; rfl) ⟨(by show 1 ≤ sizeLine; decide), fun p hp => ?_⟩
        refine toldA q (an := Km439.only (-6)) ?_ S1 hp rfl
        rw [ans_next, nx_no fun k hk => ?_]
        by_cases h0 : (s.boat k).left = 0
        · exact h0
        · have := to_list hk h0
          rw [c] at this
          cases this
      have hpos : 0 < us.length := by rw [hlen]; exact List.length_pos_iff.mpr c
      refine iteDn (by intro z; have z := V.int.inj z; rw [List.length_map] at z; omega) ?_
      have tup : ∀ (i : Nat) (t : Addr) (p : Int × Int), us[i]? = some t → ((s.boats.zipIdx.filter fun x => onWay x.1).map fun x => (((x.1.left : Nat) : Int), ((x.2 : Nat) : Int)))[i]? = some p → ∃ b k, (s.boats.zipIdx.filter fun x => onWay x.1)[i]? = some (b, k) ∧ p = (((b.left : Nat) : Int), ((k : Nat) : Int)) ∧ H1 t = some (.tup [.int (b.left : Nat), .int (k : Nat)]) := fun i t p h1 h2 => by
        rw [List.getElem?_map] at h2
        cases e : (s.boats.zipIdx.filter fun x => onWay x.1)[i]? with
        | none => rw [e] at h2; cases h2
        | some x =>
          obtain ⟨b, k⟩ := x
          rw [e] at h2
          exact ⟨b, k, rfl, (Option.some.inj h2).symm, pair_get (F := fun (u : Addr) (x : Km439.Boat × Nat) => H1 u = some (HO.tup [V.int (x.1.left : Nat), V.int (x.2 : Nat)])) hP h1 e⟩
      refine ⟨_, rfl, D, us, (s.boats.zipIdx.filter fun x => onWay x.1).map fun x => (((x.1.left : Nat) : Int), ((x.2 : Nat) : Int)), rfl, SqL.of hD', by rw [List.length_map]; exact hlen, hpos, fun i t p h1 h2 => ?_, fun i t p h1 h2 h3 => ?_⟩
      · obtain ⟨b, k, _, rfl, et⟩ := tup i t p h1 h2
        exact SqT.of et
      obtain ⟨b, k, hbk, rfl, et⟩ := tup i t p h1 h2
      obtain ⟨hk, hl⟩ := of_list (List.mem_of_getElem? hbk)
      have ek : s.boat k = b := getD_ix hk
      obtain ⟨x, hx, Yb⟩ := X1.boat hk
      obtain ⟨d, eb⟩ := id Yb
      have hkl := lt_of_get hk
      have hf : (List.range s.boats.length).foldl (nx fun k => (s.boat k).left) none = some (k, (s.boat k).left) := by
        refine nx_is hkl (by show (s.boat k).left ≠ 0; rw [ek]; exact hl) fun j hj h0 => ?_
        obtain ⟨m, hm⟩ := List.getElem?_of_mem (to_list hj h0)
        have z := h3 m (((s.boat j).left : Nat), (j : Nat)) (by rw [List.getElem?_map, hm]; rfl)
        have z : ((b.left : Nat) : Int) < ((s.boat j).left : Nat) ∨ ((b.left : Nat) : Int) = ((s.boat j).left : Nat) ∧ ((k : Nat) : Int) ≤ (j : Nat) := z
        show (s.boat k).left < (s.boat j).left ∨ (s.boat k).left = (s.boat j).left ∧ k ≤ j
        rw [ek]
        omega
      refine ⟨_, rfl, t, _, _, _, rfl, rfl, SqT.of et, at_of (j := 1) rfl rfl, ?_⟩
      refine ⟨_, rfl, _, rfl, t, _, _, _, rfl, rfl, SqT.of et, at_of (j := 0) rfl rfl, _, rfl, a, _, dx, _, _, rfl, X1.st, T.cl_State, T.n_State_boats, sF_boats s bl ql, _, rfl, bl, _, _, _, rfl, rfl, SqL.of X1.bs, at_of rfl (get_ref hx), x, _, d, _, _, rfl, eb, T.cl_Boat, T.n_Boat_to_shore, bF_to_shore b, b.shore, rfl, (by show 3 ≤ sizeLine; decide), fun p hp => ?_⟩
      refine toldA q (an := ⟨((k : Nat) : Int), [b.left, Km439.bit b.shore]⟩) ?_ S1 hp rfl
      rw [ans_next, hf, ek]
      show (⟨((k : Nat) : Int), [b.left, Km439.bit (s.boat k).shore]⟩ : Km439.Ans) = _
      rw [ek]
end
end Bts

end
section
set_option Elab.async false
set_option linter.all false
set_option maxRecDepth 100000
set_option maxHeartbeats 4000000
namespace Bts
open PySem PySem.Spec PyProof.Rows L2
section
variable {P : Program} {w : World} {K : PySem.W.Frag} {mg : Str → Option Value} {base : Heap} {A : Ad}
def sp_Boat_twin (K : PySem.W.Frag) (A : Ad) : Sp := fun vs H Q _ => ∃ (x : Addr) (b : Km439.Boat), vs = [.ref x] ∧ BoatAt A H x b ∧ ∀ (H' : Hp) (y : Addr), Same H H' → H y = none → BoatAt A H' y b → Q (.ref y) H'
theorem ok_Boat_twin (T : Txt K mg A) : FnOk P w K mg base CX0 3 A.f_Boat_twin A.d_Boat_twin P_Boat_twin (sp_Boat_twin K A) := by
  refine T.F_Boat_twin.ok sc_Boat_twin (fun vs H Q E h => ?_) (fun cdv Ar outer s0 H vs Q E hr h => ?_)
  · obtain ⟨x, b, rfl, _⟩ := h
    rfl
  · obtain ⟨x, b, rfl, ⟨d, eb⟩, k⟩ := h
    refine ⟨_, (pss_cons (ps_set (i := 1) sc_Boat_twin.nd rfl (by first | exact Or.inl rfl | exact Or.inr rfl) (pe_make T.mk_Boat (ok_Boat_init T) (hr.mono (by decide)) rfl T.g_Boat (b_Boat_init T) .nil pass0 (pa_cons (pe_fld (pv 0) rfl) (pa_cons (pe_fld (pv 0) rfl) (pa_cons (pe_fld (pv 0) rfl) pa_nil)))))
        (pss_cons (ps_fld (pv 1) (pe_fld (pv 0) rfl) rfl)
        (pss_cons (ps_fld (pv 1) (pe_fld (pv 0) rfl) rfl)
        (pss_cons (ps_fld (pv 1) (pe_fld (pv 0) rfl) rfl)
        (pss_one (ps_ret (pv 1))))))), ?_⟩
    refine ⟨_, rfl, x, _, d, _, _, rfl, eb, T.cl_Boat, T.n_Boat_seats, bF_seats b, _, rfl, x, _, d, _, _, rfl, eb, T.cl_Boat, T.n_Boat_way, bF_way b, _, rfl, x, _, d, _, _, rfl, eb, T.cl_Boat, T.n_Boat_most_swell, bF_most_swell b, fun y dy ny nd nn => ⟨y, dy, b.seats, b.way, b.swell, rfl, upd_same, fun H1 e1 k1 => ⟨rfl, ?_⟩⟩⟩
    have S1 : Same H H1 := Same.made ny nd k1
    have nxy : x ≠ y := ne_of_none eb ny
    have b1 := S1 _ _ eb
    refine ⟨_, rfl, x, _, d, _, _, rfl, b1, T.cl_Boat, T.n_Boat_inside, bF_inside b, _, rfl, y, _, dy, _, rfl, e1, T.cl_Boat, T.n_Boat_inside, (by show 6 < 1000; decide), ?_⟩
    have p1 : putF "inside" (.int ((b.in_ : Nat) : Int)) (bF ⟨b.seats, b.way, b.swell, 0, false, 0⟩) = bF ⟨b.seats, b.way, b.swell, b.in_, false, 0⟩ := by rw [bF_put_inside]; rfl
    rw [p1]
    have b2 : (upd H1 y (.ins A.c_Boat dy (bF ⟨b.seats, b.way, b.swell, b.in_, false, 0⟩))) x = some (.ins A.c_Boat d (bF b)) := by rw [upd_ne nxy]; exact b1
    refine ⟨_, rfl, x, _, d, _, _, rfl, b2, T.cl_Boat, T.n_Boat_to_shore, bF_to_shore b, _, rfl, y, _, dy, _, rfl, upd_same, T.cl_Boat, T.n_Boat_to_shore, (by show 6 < 1000; decide), ?_⟩
    have p2 : putF "to_shore" (.bl b.shore) (bF ⟨b.seats, b.way, b.swell, b.in_, false, 0⟩) = bF ⟨b.seats, b.way, b.swell, b.in_, b.shore, 0⟩ := by rw [bF_put_to_shore]; rfl
    rw [p2]
    generalize hH2 : upd H1 y (.ins A.c_Boat dy (bF ⟨b.seats, b.way, b.swell, b.in_, false, 0⟩)) = H2 at b2 ⊢
    have b3 : (upd H2 y (.ins A.c_Boat dy (bF ⟨b.seats, b.way, b.swell, b.in_, b.shore, 0⟩))) x = some (.ins A.c_Boat d (bF b)) := by rw [upd_ne nxy]; exact b2
    refine ⟨_, rfl, x, _, d, _, _, rfl, b3, T.cl_Boat, T.n_Boat_minutes_left, bF_minutes_left b, _, rfl, y, _, dy, _, rfl, upd_same, T.cl_Boat, T.n_Boat_minutes_left, (by show 6 < 1000; decide), ?_⟩
    have p3 : putF "minutes_left" (.int ((b.left : Nat) : Int)) (bF ⟨b.seats, b.way, b.swell, b.in_, b.shore, 0⟩) = bF b := by rw [bF_put_minutes_left]; rfl
    rw [p3]
    refine ⟨_, rfl, k _ y ?_ ny ⟨dy, upd_same⟩⟩
    subst hH2
    exact Same.put (Same.put (Same.put S1 ny _) ny _) ny _
def sp_State_init (K : PySem.W.Frag) (A : Ad) : Sp := fun vs H Q _ => ∃ (p dx : Addr) (n t : Nat), vs = [.ref p, .int n, .int t] ∧ H p = some (.ins A.c_State dx []) ∧
  ∀ (H' : Hp) (bl ql : Addr), H' p = some (.ins A.c_State dx (sF (Km439.opened n t) bl ql)) → H' bl = some (.lst []) → H' ql = some (.lst []) → bl ≠ ql → H bl = none → H ql = none → (∀ b o, H b = some o → b ≠ p → H' b = some o) → Q .non H'
theorem ok_State_init (T : Txt K mg A) : FnOk P w K mg base CX0 1 A.f_State_init A.d_State_init P_State_init (sp_State_init K A) := by
  refine T.F_State_init.ok sc_State_init (fun vs H Q E h => ?_) (fun cdv Ar outer s0 H vs Q E hr h => ?_)
  · obtain ⟨p, dx, n, t, rfl, _⟩ := h
    rfl
  · obtain ⟨p, dx, n, t, rfl, hp, k⟩ := h
    refine ⟨_, (pss_cons (ps_fld (pv 0) (pv 1) rfl)
        (pss_cons (ps_fld (pv 0) pe_int rfl)
        (pss_cons (ps_fld (pv 0) (pv 2) rfl)
        (pss_cons (ps_fld (pv 0) pe_int rfl)
        (pss_cons (ps_fld (pv 0) pe_int rfl)
        (pss_cons (ps_fld (pv 0) (pe_lst pa_nil) rfl)
        (pss_cons (ps_fld (pv 0) (pe_lst pa_nil) rfl)
        (pss_cons (ps_fld (pv 0) pe_int rfl)
        (pss_one (ps_fld (pv 0) pe_int rfl)))))))))), ?_⟩
    refine ⟨_, rfl, _, rfl, p, A.c_State, dx, _, rfl, hp, T.cl_State, T.n_State_on_ship, lt1000 few0, ?_⟩
    refine ⟨_, rfl, p, A.c_State, dx, _, rfl, upd_same, T.cl_State, T.n_State_on_shore, lt1000 (few few0), ?_⟩
    refine ⟨_, rfl, _, rfl, p, A.c_State, dx, _, rfl, upd_same, T.cl_State, T.n_State_sail, lt1000 (few (few few0)), ?_⟩
    refine ⟨_, rfl, p, A.c_State, dx, _, rfl, upd_same, T.cl_State, T.n_State_minute, lt1000 (few (few (few few0))), ?_⟩
    refine ⟨_, rfl, p, A.c_State, dx, _, rfl, upd_same, T.cl_State, T.n_State_swell, lt1000 (few (few (few (few few0)))), ?_⟩
    generalize hH5 : upd _ p _ = H5
    have h5 := (congrFun hH5 p).symm.trans upd_same
    have f5 : ∀ b o, H b = some o → b ≠ p → H5 b = some o := fun b o e hb => by rw [← hH5, upd_ne hb, upd_ne hb, upd_ne hb, upd_ne hb, upd_ne hb]; exact e
    have g5 : ∀ b, H5 b = none → H b = none := fun b e => by
      cases z : H b with
      | none => rfl
      | some o =>
        by_cases hb : b = p
        · rw [hb, h5] at e; cases e
        · rw [f5 b o z hb] at e; cases e
    refine ⟨Nat.zero_le _, fun bl hbl => ?_⟩
    have npb : p ≠ bl := ne_of_none h5 hbl
    refine ⟨_, rfl, p, A.c_State, dx, _, rfl, (by rw [upd_ne npb]; exact h5), T.cl_State, T.n_State_boats, lt1000 (few (few (few (few (few few0))))), ?_⟩
    refine ⟨Nat.zero_le _, fun ql hql => ?_⟩
    have npq : p ≠ ql := ne_of_none upd_same hql
    have nbq : bl ≠ ql := fun z => by rw [← z, upd_ne npb.symm, upd_same] at hql; cases hql
    have hql5 : H5 ql = none := by rw [upd_ne npq.symm, upd_ne nbq.symm] at hql; exact hql
    refine ⟨_, rfl, p, A.c_State, dx, _, rfl, (by rw [upd_ne npq]; exact upd_same), T.cl_State, T.n_State_groups, lt1000 (few (few (few (few (few (few few0)))))), ?_⟩
    refine ⟨_, rfl, p, A.c_State, dx, _, rfl, upd_same, T.cl_State, T.n_State_times_gone, lt1000 (few (few (few (few (few (few (few few0))))))), ?_⟩
    refine ⟨_, rfl, p, A.c_State, dx, _, rfl, upd_same, T.cl_State, T.n_State_tickets_given, lt1000 (few (few (few (few (few (few (few (few few0)))))))), ?_⟩
    refine k _ bl ql (Eq.trans upd_same (congrArg (fun q => some (HO.ins A.c_State dx q)) (sF_new _ _ _ _ _ _ _ _ _))) ?_ ?_ nbq (g5 _ hbl) (g5 _ hql5) fun b o e hb => ?_
    · rw [upd_ne npb.symm, upd_ne npb.symm, upd_ne npb.symm, upd_ne nbq, upd_ne npb.symm, upd_same]
    · rw [upd_ne npq.symm, upd_ne npq.symm, upd_ne npq.symm, upd_same]
    · have e5 := f5 b o e hb
      rw [upd_ne hb, upd_ne hb, upd_ne hb, upd_ne (ne_of_none e5 hql5), upd_ne hb, upd_ne (ne_of_none e5 hbl)]
      exact e5
def sp_State_twin (K : PySem.W.Frag) (A : Ad) : Sp := fun vs H Q _ => ∃ (a : Addr) (s : Km439.Sea) (ok : Addr → Prop), vs = [.ref a] ∧ StAt A ok H a s ∧ WF s ∧ ∀ (H' : Hp) (y : Addr), Same H H' → StAt A (fr H) H' y s → Q (.ref y) H'
theorem ok_State_twin (T : Txt K mg A) : FnOk P w K mg base CX0 4 A.f_State_twin A.d_State_twin P_State_twin (sp_State_twin K A) := by
  refine T.F_State_twin.ok sc_State_twin (fun vs H Q E h => ?_) (fun cdv Ar outer s0 H vs Q E hr h => ?_)
  · obtain ⟨a, s, ok, rfl, _⟩ := h
    rfl
  · obtain ⟨a, s, ok, rfl, Y, W, k⟩ := h
    obtain ⟨dx, bl, ql, as, ts, X⟩ := id Y
    refine ⟨_, (pss_cons (ps_set (i := 1) sc_State_twin.nd rfl (by first | exact Or.inl rfl | exact Or.inr rfl) (pe_make T.mk_State (ok_State_init T) (hr.mono (by decide)) rfl T.g_State (b_State_init T) .nil pass0 (pa_cons (pe_fld (pv 0) rfl) (pa_cons (pe_fld (pv 0) rfl) pa_nil))))
        (pss_cons (ps_fld (pv 1) (pe_fld (pv 0) rfl) rfl)
        (pss_cons (ps_fld (pv 1) (pe_fld (pv 0) rfl) rfl)
        (pss_cons (ps_fld (pv 1) (pe_fld (pv 0) rfl) rfl)
        (pss_cons (ps_fld (pv 1) (pe_lc rfl sc_State_twin.nd (pi_list (pe_fld (pv 0) rfl)) (blkOk_by (N := N_State_twin) (sc := defScope s_State_twin) (own := [("boat", 2)]) (by decide +kernel)) (fun _ _ _ _ _ => (pg_name (i := 2) sc_State_twin.nd rfl (by first | exact Or.inl rfl | exact Or.inr rfl))) (fun _ _ _ _ _ => pts_nil) (fun _ _ _ _ _ => (pe_meth0 (pv 2) T.cl_Boat T.m_Boat_twin (ok_Boat_twin T) (hr.mono (by decide)) (b_Boat_twin T) .nil pass0))) rfl)
        (pss_cons (ps_fld (pv 1) (pe_callTy call_list_of (by rfl) T.z_list PyProof.Rows.boot_list (pa_cons (pe_fld (pv 0) rfl) pa_nil)) rfl)
        (pss_cons (ps_fld (pv 1) (pe_fld (pv 0) rfl) rfl)
        (pss_cons (ps_fld (pv 1) (pe_fld (pv 0) rfl) rfl)
        (pss_one (ps_ret (pv 1))))))))))), ?_⟩
    refine ⟨_, rfl, a, _, dx, _, _, rfl, X.st, T.cl_State, T.n_State_on_ship, sF_on_ship s bl ql, _, rfl, a, _, dx, _, _, rfl, X.st, T.cl_State, T.n_State_sail, sF_sail s bl ql, fun y dy ny nd nn => ⟨y, dy, s.ship, s.sail, rfl, upd_same, fun H1 b1 q1 e1 eb1 eq1 nbq1 fb1 fq1 k1 => ⟨rfl, ?_⟩⟩⟩
    have S1 : Same H H1 := Same.made ny nd k1
    have nay : a ≠ y := ne_of_none X.st ny
    have Xa : ∀ {H'}, Same H H' → H' a = some (.ins A.c_State dx (sF s bl ql)) := fun S => S _ _ X.st
    have S2 : ∀ {H' : Hp} {o : HO}, Same H H' → Same H (upd H' y o) := fun S => Same.put S ny _
    -- on_shore, minute, swell
    refine ⟨_, rfl, a, _, dx, _, _, rfl, Xa S1, T.cl_State, T.n_State_on_shore, sF_on_shore s bl ql, _, rfl, y, _, dy, _, rfl, e1, T.cl_State, T.n_State_on_shore, (by show 9 < 1000; decide), ?_⟩
    have p1 : putF "on_shore" (.int ((s.shore : Nat) : Int)) (sF (Km439.opened s.ship s.sail) b1 q1) = sF { Km439.opened s.ship s.sail with shore := s.shore } b1 q1 := by rw [sF_put_on_shore]; rfl
    rw [p1]
    refine ⟨_, rfl, a, _, dx, _, _, rfl, Xa (S2 S1), T.cl_State, T.n_State_minute, sF_minute s bl ql, _, rfl, y, _, dy, _, rfl, upd_same, T.cl_State, T.n_State_minute, (by show 9 < 1000; decide), ?_⟩
    have p2 : putF "minute" (.int ((s.time : Nat) : Int)) (sF { Km439.opened s.ship s.sail with shore := s.shore } b1 q1) = sF { Km439.opened s.ship s.sail with shore := s.shore, time := s.time } b1 q1 := by rw [sF_put_minute]; rfl
    rw [p2]
    refine ⟨_, rfl, a, _, dx, _, _, rfl, Xa (S2 (S2 S1)), T.cl_State, T.n_State_swell, sF_swell s bl ql, _, rfl, y, _, dy, _, rfl, upd_same, T.cl_State, T.n_State_swell, (by show 9 < 1000; decide), ?_⟩
    have p3 : putF "swell" (.int ((s.swell : Nat) : Int)) (sF { Km439.opened s.ship s.sail with shore := s.shore, time := s.time } b1 q1) = sF { Km439.opened s.ship s.sail with shore := s.shore, time := s.time, swell := s.swell } b1 q1 := by rw [sF_put_swell]; rfl
    rw [p3]
    generalize hH4 : upd _ y (.ins A.c_State dy (sF { Km439.opened s.ship s.sail with shore := s.shore, time := s.time, swell := s.swell } b1 q1)) = H4
    have S4 : Same H H4 := by rw [← hH4]; exact S2 (S2 (S2 S1))
    have y4 : H4 y = some (.ins A.c_State dy (sF { Km439.opened s.ship s.sail with shore := s.shore, time := s.time, swell := s.swell } b1 q1)) := by rw [← hH4]; exact upd_same
    -- other.boats = [boat.twin() for boat in self.boats]
    refine ⟨_, rfl, a, _, dx, _, _, rfl, Xa S4, T.cl_State, T.n_State_boats, sF_boats s bl ql, bl, rfl, ⟨_, SqL.of (S4 _ _ X.bs)⟩, fun D hD => ?_⟩
    refine lc_list (K := K) (a := bl) (xs := as.map V.ref) (fun i H' => ∃ ys : List Addr, H' D = some (.lst (ys.map V.ref)) ∧ ys.length = i ∧ ys.Nodup ∧ (∀ z, z ∈ ys → fr H4 z ∧ z ≠ D) ∧ (∀ (j : Nat) (z : Addr) (b : Km439.Boat), ys[j]? = some z → s.boats[j]? = some b → BoatAt A H' z b) ∧ Same H4 H')
      ⟨[], upd_same, rfl, List.nodup_nil, fun z hz => (by cases hz), fun j z b hz => (by simp at hz), Same.new hD _⟩ (fun i H' _ ⟨_, _, _, _, _, _, S'⟩ => SqL.of (S' _ _ (S4 _ _ X.bs))) ?_ ?_
    · rintro i x H' hi ⟨ys, hys, hlen, hnd, hfr, hbo, S'⟩
      obtain ⟨z, hz, rfl⟩ := map_ref_at hi
      obtain ⟨b, hb, Yb⟩ := X.of hz
      obtain ⟨d, eb⟩ := id Yb
      have e' := S' _ _ (S4 _ _ eb)
      refine ⟨rfl, _, rfl, z, d, _, rfl, e', bF_no_twin b, z, b, rfl, ⟨d, e'⟩, fun H6 u S6 nu hu => ?_⟩
      have nuD : u ≠ D := fun q => by rw [q, hys] at nu; cases nu
      have fu : fr H4 u := S'.free nu
      refine ⟨_, S6 _ _ hys, ?_, ys ++ [u], ?_, ?_, ?_, fun v hv => ?_, fun j v c h1 h2 => ?_, ?_⟩
      · rw [List.length_map, hlen]
        have h1 := lt_of_get hz
        have h2 := X.bn
        have h3 := W.nb
        exact small10 (by omega)
      · rw [upd_same, List.map_append]; rfl
      · rw [List.length_append, List.length_singleton, hlen]
      · refine nd_snoc hnd fun hm => ?_
        obtain ⟨j, hj⟩ := List.getElem?_of_mem hm
        have hjl := lt_of_get hj
        have h1 := lt_of_get hz
        obtain ⟨c, hc⟩ : ∃ c, s.boats[j]? = some c := ⟨_, List.getElem?_eq_getElem (by have h2 := X.bn; omega)⟩
        obtain ⟨dd, ee⟩ := hbo j u c hj hc
        rw [nu] at ee
        cases ee
      · rcases List.mem_append.mp hv with q | q
        · exact hfr v q
        · rw [List.mem_singleton.mp q]; exact ⟨fu, nuD⟩
      · have hv : BoatAt A H6 v c := by
          by_cases hj : j < ys.length
          · rw [List.getElem?_append_left hj] at h1
            exact (hbo j v c h1 h2).same S6
          · rw [List.getElem?_append_right (by omega)] at h1
            have hz0 : j - ys.length = 0 := by have := lt_of_get h1; rw [List.length_singleton] at this; omega
            rw [hz0] at h1
            cases h1
            have ej : j = i := by omega
            rw [ej, hb] at h2
            cases h2
            exact hu
        obtain ⟨dd, ee⟩ := hv
        exact ⟨dd, by rw [upd_ne (ne_of ee (S6 _ _ hys) (by intro q; cases q))]; exact ee⟩
      · exact Same.put (S'.trans S6) hD _
    · rintro H5 ⟨ys, hys, hlen, hnd, hfr, hbo, S5⟩
      have hlen' : ys.length = s.boats.length := by rw [hlen, List.length_map, X.bn]
      have S45 := S4.trans S5
      have y5 := S5 _ _ y4
      refine ⟨_, rfl, y, _, dy, _, rfl, y5, T.cl_State, T.n_State_boats, (by show 9 < 1000; decide), ?_⟩
      have p5 : putF "boats" (.ref D) (sF { Km439.opened s.ship s.sail with shore := s.shore, time := s.time, swell := s.swell } b1 q1) = sF { Km439.opened s.ship s.sail with shore := s.shore, time := s.time, swell := s.swell, boats := s.boats } D q1 := by rw [sF_put_boats]; rfl
      rw [p5]
      generalize hH6 : upd H5 y (.ins A.c_State dy (sF { Km439.opened s.ship s.sail with shore := s.shore, time := s.time, swell := s.swell, boats := s.boats } D q1)) = H6
      have S6 : Same H H6 := by rw [← hH6]; exact S2 S45
      have y6 : H6 y = some (.ins A.c_State dy (sF { Km439.opened s.ship s.sail with shore := s.shore, time := s.time, swell := s.swell, boats := s.boats } D q1)) := by rw [← hH6]; exact upd_same
      have nyD : y ≠ D := ne_of_none y4 hD
      have d6 : H6 D = some (.lst (ys.map V.ref)) := by rw [← hH6, upd_ne nyD.symm]; exact hys
      have nyz : ∀ z, z ∈ ys → y ≠ z := fun z hz => ne_of_none y4 (hfr z hz).1
      have bo6 : ∀ (j : Nat) (z : Addr) (b : Km439.Boat), ys[j]? = some z → s.boats[j]? = some b → BoatAt A H6 z b := fun j z b h1 h2 => by
        obtain ⟨dd, ee⟩ := hbo j z b h1 h2
        exact ⟨dd, by rw [← hH6, upd_ne (nyz z (List.mem_of_getElem? h1)).symm]; exact ee⟩
      have fD : fr H D := S4.free hD
      -- other.groups = list(self.groups)
      refine ⟨_, rfl, a, _, dx, _, _, rfl, Xa S6, T.cl_State, T.n_State_groups, sF_groups s bl ql, ql, _, rfl, .inl (SqL.of (S6 _ _ X.qs)), fun G hG => ?_⟩
      have nyG : y ≠ G := ne_of_none y6 hG
      have nDG : D ≠ G := ne_of_none d6 hG
      refine ⟨_, rfl, y, _, dy, _, rfl, (by rw [upd_ne nyG]; exact y6), T.cl_State, T.n_State_groups, (by show 9 < 1000; decide), ?_⟩
      have p6 : putF "groups" (.ref G) (sF { Km439.opened s.ship s.sail with shore := s.shore, time := s.time, swell := s.swell, boats := s.boats } D q1) = sF { s with ways := 0, tickets := 0 } D G := by rw [sF_put_groups]; rfl
      rw [p6]
      have S7 : Same H (upd (upd H6 G (.lst (ts.map V.ref))) y (.ins A.c_State dy (sF { s with ways := 0, tickets := 0 } D G))) := S2 (S6.trans (Same.new hG _))
      have X7 : StX A (fr H) (upd (upd H6 G (.lst (ts.map V.ref))) y (.ins A.c_State dy (sF { s with ways := 0, tickets := 0 } D G))) y dy D G ys ts { s with ways := 0, tickets := 0 } := by
        refine ⟨upd_same, ?_, ?_, hlen', fun j z b h1 h2 => ?_, X.qn, fun j t g h1 h2 => S7 _ _ (X.gr j t g h1 h2), hnd, nDG, ny, fD, S6.free hG, fun z hz => S4.free (hfr z hz).1⟩
        · rw [upd_ne nyD.symm, upd_ne nDG]; exact d6
        · rw [upd_ne nyG.symm, upd_same]
        · obtain ⟨dd, ee⟩ := bo6 j z b h1 h2
          exact ⟨dd, by rw [upd_ne (nyz z (List.mem_of_getElem? h1)).symm, upd_ne (ne_of_none ee hG)]; exact ee⟩
      refine ⟨_, rfl, a, _, dx, _, _, rfl, Xa S7, T.cl_State, T.n_State_times_gone, sF_times_gone s bl ql, _, rfl, y, _, dy, _, rfl, X7.st, T.cl_State, T.n_State_times_gone, (by show 9 < 1000; decide), ?_⟩
      have p7 : putF "times_gone" (.int ((s.ways : Nat) : Int)) (sF { s with ways := 0, tickets := 0 } D G) = sF { s with tickets := 0 } D G := by rw [sF_put_times_gone]; rfl
      rw [p7]
      have X8 := X7.setS (s' := { s with tickets := 0 }) rfl rfl
      have S8 := S2 (o := .ins A.c_State dy (sF { s with tickets := 0 } D G)) S7
      refine ⟨_, rfl, a, _, dx, _, _, rfl, Xa S8, T.cl_State, T.n_State_tickets_given, sF_tickets_given s bl ql, _, rfl, y, _, dy, _, rfl, X8.st, T.cl_State, T.n_State_tickets_given, (by show 9 < 1000; decide), ?_⟩
      have p8 : putF "tickets_given" (.int ((s.tickets : Nat) : Int)) (sF { s with tickets := 0 } D G) = sF s D G := by rw [sF_put_tickets_given]; rfl
      rw [p8]
      have X9 := X8.setS (s' := s) rfl rfl
      exact ⟨_, rfl, k _ y (S2 S8) X9.at_⟩
end
end Bts

end
section
set_option Elab.async false
set_option linter.all false
set_option maxRecDepth 100000
set_option maxHeartbeats 4000000
namespace Bts
open PySem PySem.Spec PyProof.Rows L2
section
variable {P : Program} {w : World} {K : PySem.W.Frag} {mg : Str → Option Value} {base : Heap} {A : Ad}
/-- a ship and its own objects: v the state, ps the states ahead, fs those taken back -/
structure ShX (A : Ad) (H0 H : Hp) (sh d : Addr) (v : V) (ch dc bf ud : Addr) (ps fs : List Addr) : Prop where
  hsh : H sh = some (.ins A.c_Ship d (hF v ch))
  hch : H ch = some (.ins A.c_Changes dc (cF bf ud))
  hbf : H bf = some (.lst (ps.map V.ref))
  hud : H ud = some (.lst (fs.map V.ref))
  nbu : bf ≠ ud
  nsc : sh ≠ ch
  f1 : fr H0 sh
  f2 : fr H0 ch
  f3 : fr H0 bf
  f4 : fr H0 ud
def okS (H0 : Hp) (sh ch bf ud : Addr) (x : Addr) : Prop := fr H0 x ∧ x ≠ sh ∧ x ≠ ch ∧ x ≠ bf ∧ x ≠ ud
def ShipAt (A : Ad) (H0 H : Hp) (sh : Addr) : Option Km439.Desk → Prop
  | none => ∃ d ch dc bf ud, ShX A H0 H sh d .non ch dc bf ud [] []
  | some D => ∃ d st ch dc bf ud ps fs, ShX A H0 H sh d (.ref st) ch dc bf ud ps fs ∧ StAt A (okS H0 sh ch bf ud) H st D.now ∧
      Paired (fun x s => StAt A (okS H0 sh ch bf ud) H x s) ps D.past.reverse ∧ Paired (fun x s => StAt A (okS H0 sh ch bf ud) H x s) fs D.future.reverse ∧ WD D
section
variable {H0 H H' : Hp} {sh d ch dc bf ud : Addr} {v : V} {ps fs : List Addr}
theorem ShX.same (X : ShX A H0 H sh d v ch dc bf ud ps fs) (S : Same H H') : ShX A H0 H' sh d v ch dc bf ud ps fs := ⟨S _ _ X.hsh, S _ _ X.hch, S _ _ X.hbf, S _ _ X.hud, X.nbu, X.nsc, X.f1, X.f2, X.f3, X.f4⟩
theorem ShipAt.same {S : Option Km439.Desk} (Z : ShipAt A H0 H sh S) (q : Same H H') : ShipAt A H0 H' sh S := by
  cases S with
  | none =>
    obtain ⟨d, ch, dc, bf, ud, X⟩ := Z
    exact ⟨d, ch, dc, bf, ud, X.same q⟩
  | some D =>
    obtain ⟨d, st, ch, dc, bf, ud, ps, fs, X, Y, P1, P2, W⟩ := Z
    exact ⟨d, st, ch, dc, bf, ud, ps, fs, X.same q, Y.same q, pair_imp (fun _ _ z => z.same q) P1, pair_imp (fun _ _ z => z.same q) P2, W⟩
end
def sp_Changes_init (K : PySem.W.Frag) (A : Ad) : Sp := fun vs H Q _ => ∃ (p dx : Addr), vs = [.ref p] ∧ H p = some (.ins A.c_Changes dx []) ∧
  ∀ (H' : Hp) (bf ud : Addr), H' p = some (.ins A.c_Changes dx (cF bf ud)) → H' bf = some (.lst []) → H' ud = some (.lst []) → bf ≠ ud → H bf = none → H ud = none → (∀ b o, H b = some o → b ≠ p → H' b = some o) → Q .non H'
theorem ok_Changes_init (T : Txt K mg A) : FnOk P w K mg base CX0 1 A.f_Changes_init A.d_Changes_init P_Changes_init (sp_Changes_init K A) := by
  refine T.F_Changes_init.ok sc_Changes_init (fun vs H Q E h => ?_) (fun cdv Ar outer s0 H vs Q E hr h => ?_)
  · obtain ⟨p, dx, rfl, _⟩ := h
    rfl
  · obtain ⟨p, dx, rfl, hp, k⟩ := h
    refine ⟨_, (pss_cons (ps_fld (pv 0) (pe_lst pa_nil) rfl)
        (pss_one (ps_fld (pv 0) (pe_lst pa_nil) rfl))), ?_⟩
    refine ⟨Nat.zero_le _, fun bl hbl => ?_⟩
    have npb : p ≠ bl := ne_of_none hp hbl
    refine ⟨_, rfl, p, A.c_Changes, dx, _, rfl, (by rw [upd_ne npb]; exact hp), T.cl_Changes, T.n_Changes_before, lt1000 few0, ?_⟩
    refine ⟨Nat.zero_le _, fun ql hql => ?_⟩
    have npq : p ≠ ql := ne_of_none upd_same hql
    have nbq : bl ≠ ql := fun z => by rw [← z, upd_ne npb.symm, upd_same] at hql; cases hql
    have hql0 : H ql = none := by rw [upd_ne npq.symm, upd_ne nbq.symm] at hql; exact hql
    refine ⟨_, rfl, p, A.c_Changes, dx, _, rfl, (by rw [upd_ne npq]; exact upd_same), T.cl_Changes, T.n_Changes_undone, lt1000 (few few0), ?_⟩
    refine k _ bl ql (Eq.trans upd_same (congrArg (fun q => some (HO.ins A.c_Changes dx q)) (cF_new _ _))) ?_ ?_ nbq hbl hql0 fun b o e hb => ?_
    · rw [upd_ne npb.symm, upd_ne nbq, upd_ne npb.symm, upd_same]
    · rw [upd_ne npq.symm, upd_same]
    · rw [upd_ne hb, upd_ne (ne_of_none e hql0), upd_ne hb, upd_ne (ne_of_none e hbl)]
      exact e
def keepL (ps : List Addr) (st : Addr) : List Addr := (ps ++ [st]).drop (ps.length + 1 - 30)
def sp_Changes_keep (K : PySem.W.Frag) (A : Ad) : Sp := fun vs H Q _ => ∃ (ch dc bf ud st : Addr) (ps : List Addr), vs = [.ref ch, .ref st] ∧ H ch = some (.ins A.c_Changes dc (cF bf ud)) ∧ H bf = some (.lst (ps.map V.ref)) ∧ ps.length ≤ 30 ∧
  ∀ (H' : Hp) (ud' : Addr), H' ch = some (.ins A.c_Changes dc (cF bf ud')) → H' bf = some (.lst ((keepL ps st).map V.ref)) → H' ud' = some (.lst []) → H ud' = none → (∀ b o, H b = some o → b ≠ ch → b ≠ bf → H' b = some o) → Q .non H'
theorem ok_Changes_keep (T : Txt K mg A) : FnOk P w K mg base CX0 1 A.f_Changes_keep A.d_Changes_keep P_Changes_keep (sp_Changes_keep K A) := by
  refine T.F_Changes_keep.ok sc_Changes_keep (fun vs H Q E h => ?_) (fun cdv Ar outer s0 H vs Q E hr h => ?_)
  · obtain ⟨ch, dc, bf, ud, st, ps, rfl, _⟩ := h
    rfl
  · obtain ⟨ch, dc, bf, ud, st, ps, rfl, hc, hb, hn, k⟩ := h
    have ncb : ch ≠ bf := ne_of hc hb (by intro q; cases q)
    refine ⟨_, (pss_cons (ps_expr (pe_bm PySem.F.plainAttrs_list PySem.F.slot_list_append PySem.F.type_list_append mt_append (pe_fld (pv 0) rfl) (pa_cons (pv 1) pa_nil)))
        (pss_cons (ps_if (pt_cmpR op_gt (pe_callB call_len_seq (by rfl) T.z_len PySem.boot_len (pa_cons (pe_fld (pv 0) rfl) pa_nil)) (pe_gi (by rfl) T.i_MOST_CHANGES) (nomark _)) (pss_one (ps_expr (pe_bm PySem.F.plainAttrs_list PySem.F.slot_list_pop PySem.F.type_list_pop mt_popAt (pe_fld (pv 0) rfl) (pa_cons pe_int pa_nil)))) pss_nil)
        (pss_one (ps_fld (pv 0) (pe_lst pa_nil) rfl)))), ?_⟩
    refine ⟨_, rfl, ch, _, dc, _, _, rfl, hc, T.cl_Changes, T.n_Changes_before, cF_before bf ud, .inl ⟨rfl, _, SqL.of hb⟩, _, rfl, bf, _, _, rfl, rfl, hb, (by rw [List.length_map]; exact Nat.lt_of_le_of_lt hn (by decide)), ?_⟩
    have em : ps.map V.ref ++ [V.ref st] = (ps ++ [st]).map V.ref := by rw [List.map_append]; rfl
    rw [em]
    have hc1 : (upd H bf (.lst ((ps ++ [st]).map V.ref))) ch = some (.ins A.c_Changes dc (cF bf ud)) := by rw [upd_ne ncb]; exact hc
    refine ⟨_, rfl, ch, _, dc, _, _, rfl, hc1, T.cl_Changes, T.n_Changes_before, cF_before bf ud, bf, _, rfl, .inl (SqL.of upd_same), _, _, rfl, rfl, _, rfl, ?_⟩
    have fin : ∀ (H2 : Hp), H2 ch = some (.ins A.c_Changes dc (cF bf ud)) → H2 bf = some (.lst ((keepL ps st).map V.ref)) → (∀ b o, H b = some o → b ≠ ch → b ≠ bf → H2 b = some o) → (∀ b, H2 b = none → H b = none) →
        ∀ u, H2 u = none → Q .non (upd (upd H2 u (.lst [])) ch (.ins A.c_Changes dc (putF "undone" (.ref u) (cF bf ud)))) := fun H2 g1 g2 g3 g4 u hu => by
      have ncu : ch ≠ u := ne_of_none g1 hu
      have nbu : bf ≠ u := ne_of_none g2 hu
      refine k _ u ?_ ?_ ?_ (g4 u hu) fun b o e n1 n2 => ?_
      · rw [upd_same, cF_put_undone]; rfl
      · rw [upd_ne ncb.symm, upd_ne nbu]; exact g2
      · rw [upd_ne ncu.symm, upd_same]
      · have := g3 b o e n1 n2
        rw [upd_ne n1, upd_ne (ne_of_none this hu)]
        exact this
    have free1 : ∀ {o : HO} b, (upd H bf o) b = none → H b = none := fun b e => by
      by_cases q : b = bf
      · rw [q, upd_same] at e; cases e
      · rw [upd_ne q] at e; exact e
    by_cases c : ps.length = 30
    · refine iteD (by rw [List.length_map, List.length_append, List.length_singleton, c]; decide) ?_
      have e1 : ((ps ++ [st]).map V.ref).eraseIdx 0 = (keepL ps st).map V.ref := by
        unfold keepL
        rw [c, List.map_drop]
        cases (ps ++ [st]).map V.ref with
        | nil => rfl
        | cons y r => rfl
      obtain ⟨y, hy⟩ : ∃ y, ((ps ++ [st]).map V.ref)[0]? = some y := ⟨_, List.getElem?_eq_getElem (by rw [List.length_map, List.length_append]; exact Nat.succ_pos _)⟩
      refine ⟨_, rfl, ch, _, dc, _, _, rfl, hc1, T.cl_Changes, T.n_Changes_before, cF_before bf ud, .inl ⟨rfl, _, SqL.of upd_same⟩, bf, _, 0, 0, y, rfl, rfl, upd_same, (by decide), (by decide), (by rw [List.length_map, List.length_append, c]; rfl), hy, ?_⟩
      rw [e1]
      refine ⟨Nat.zero_le _, fun u hu => ⟨_, rfl, ch, _, dc, cF bf ud, rfl, ?_, T.cl_Changes, T.n_Changes_undone, (by show 2 < 1000; decide), ?_⟩⟩
      · have q : (upd (upd H bf (.lst ((ps ++ [st]).map V.ref))) bf (.lst ((keepL ps st).map V.ref))) ch = some (.ins A.c_Changes dc (cF bf ud)) := by rw [upd_ne ncb]; exact hc1
        rw [upd_ne (ne_of_none q hu)]
        exact q
      · refine fin _ (by rw [upd_ne ncb]; exact hc1) upd_same (fun b o e n1 n2 => by rw [upd_ne n2, upd_ne n2]; exact e) (fun b e => free1 (o := .lst ((ps ++ [st]).map V.ref)) b ?_) u hu
        by_cases q : b = bf
        · rw [q, upd_same] at e; cases e
        · rw [upd_ne q] at e; exact e
    · refine iteDn (by rw [List.length_map, List.length_append, List.length_singleton]; omega) ?_
      have e1 : keepL ps st = ps ++ [st] := by
        unfold keepL
        rw [show ps.length + 1 - 30 = 0 by omega, List.drop_zero]
      refine ⟨Nat.zero_le _, fun u hu => ⟨_, rfl, ch, _, dc, cF bf ud, rfl, ?_, T.cl_Changes, T.n_Changes_undone, (by show 2 < 1000; decide), ?_⟩⟩
      · rw [upd_ne (ne_of_none hc1 hu)]
        exact hc1
      · exact fin _ hc1 (by rw [upd_same, e1]) (fun b o e n1 n2 => by rw [upd_ne n2]; exact e) (fun b e => free1 b e) u hu
end
end Bts

end
section
set_option Elab.async false
set_option linter.all false
set_option maxRecDepth 100000
set_option maxHeartbeats 4000000
namespace Bts
open PySem PySem.Spec PyProof.Rows L2
section
variable {P : Program} {w : World} {K : PySem.W.Frag} {mg : Str → Option Value} {base : Heap} {A : Ad}
/-- a call's place and its numbers -/
def code : Km439.Call → Nat × List Nat
  | .start a b => (0, [a, b])
  | .boat a b c => (1, [a, b, c])
  | .into a b => (2, [a, b])
  | .out_ a b => (3, [a, b])
  | .go a => (4, [a])
  | .minutes a => (5, [a])
  | .swell a => (6, [a])
  | .ticket a => (7, [a])
  | .call_ a => (8, [a])
  | .drop a => (9, [a])
  | .sail a => (10, [a])
  | .back_ => (11, [])
  | .slack => (12, [])
  | .brought a => (13, [a])
  | .fewest a => (14, [a])
  | .next => (15, [])
  | .where_ a => (16, [a])
  | .look a => (17, [a])
  | .place a => (18, [a])
  | .first => (19, [])
  | .fits a => (20, [a])
  | .all => (21, [])
  | .may => (22, [])
  | .sums => (23, [])
  | .back => (24, [])
  | .again => (25, [])
  | .state => (26, [])
def vints (l : List Nat) : List V := l.map fun n => V.int (n : Nat)
theorem nev {a b : Int} (h : ¬ a = b) : ¬ V.int a = V.int b := fun z => h (V.int.inj z)
def sp_changed (K : PySem.W.Frag) (A : Ad) : Sp := fun vs H Q _ => ∃ (a g : Addr) (c : Km439.Call), vs = [.ref a, .int (code c).1, .ref g] ∧ isChg c = true ∧ SqL K H g (vints (code c).2) ∧ Chg A H a c Q
theorem ok_changed (T : Txt K mg A) : FnOk P w K mg base CX0 5 A.f_changed A.d_changed P_changed (sp_changed K A) := by
  refine T.F_changed.ok sc_changed (fun vs H Q E h => ?_) (fun cdv Ar outer s0 H vs Q E hr h => ?_)
  · obtain ⟨a, g, c, rfl, _⟩ := h
    rfl
  · obtain ⟨a, g, c, rfl, hc, hg, q⟩ := h
    refine ⟨_, (pss_cons (ps_if (pt_cmpR op_eq (pv 1) (pe_gi (by rfl) T.i_BS_BOAT) (nomark _)) (pss_one (ps_ret (pe_call (ok_bs_boat T) (hr.mono (by decide)) rfl T.g_bs_boat T.F_bs_boat.kp (b_bs_boat T) .nil pass0 (pa_cons (pv 0) (pa_cons (pe_ix ix_list (pv 2) pe_int (fun _ _ => rfl)) (pa_cons (pe_ix ix_list (pv 2) pe_int (fun _ _ => rfl)) (pa_cons (pe_ix ix_list (pv 2) pe_int (fun _ _ => rfl)) pa_nil))))))) pss_nil)
        (pss_cons (ps_if (pt_cmpR op_eq (pv 1) (pe_gi (by rfl) T.i_BS_INTO) (nomark _)) (pss_one (ps_ret (pe_call (ok_bs_into T) (hr.mono (by decide)) rfl T.g_bs_into T.F_bs_into.kp (b_bs_into T) .nil pass0 (pa_cons (pv 0) (pa_cons (pe_ix ix_list (pv 2) pe_int (fun _ _ => rfl)) (pa_cons (pe_ix ix_list (pv 2) pe_int (fun _ _ => rfl)) pa_nil)))))) pss_nil)
        (pss_cons (ps_if (pt_cmpR op_eq (pv 1) (pe_gi (by rfl) T.i_BS_OUT) (nomark _)) (pss_one (ps_ret (pe_call (ok_bs_out T) (hr.mono (by decide)) rfl T.g_bs_out T.F_bs_out.kp (b_bs_out T) .nil pass0 (pa_cons (pv 0) (pa_cons (pe_ix ix_list (pv 2) pe_int (fun _ _ => rfl)) (pa_cons (pe_ix ix_list (pv 2) pe_int (fun _ _ => rfl)) pa_nil)))))) pss_nil)
        (pss_cons (ps_if (pt_cmpR op_eq (pv 1) (pe_gi (by rfl) T.i_BS_GO) (nomark _)) (pss_one (ps_ret (pe_call (ok_bs_go T) (hr.mono (by decide)) rfl T.g_bs_go T.F_bs_go.kp (b_bs_go T) .nil pass0 (pa_cons (pv 0) (pa_cons (pe_ix ix_list (pv 2) pe_int (fun _ _ => rfl)) pa_nil))))) pss_nil)
        (pss_cons (ps_if (pt_cmpR op_eq (pv 1) (pe_gi (by rfl) T.i_BS_MINUTES) (nomark _)) (pss_one (ps_ret (pe_call (ok_bs_minutes T) (hr.mono (by decide)) rfl T.g_bs_minutes T.F_bs_minutes.kp (b_bs_minutes T) .nil pass0 (pa_cons (pv 0) (pa_cons (pe_ix ix_list (pv 2) pe_int (fun _ _ => rfl)) pa_nil))))) pss_nil)
        (pss_cons (ps_if (pt_cmpR op_eq (pv 1) (pe_gi (by rfl) T.i_BS_SWELL) (nomark _)) (pss_one (ps_ret (pe_call (ok_bs_swell T) (hr.mono (by decide)) rfl T.g_bs_swell T.F_bs_swell.kp (b_bs_swell T) .nil pass0 (pa_cons (pv 0) (pa_cons (pe_ix ix_list (pv 2) pe_int (fun _ _ => rfl)) pa_nil))))) pss_nil)
        (pss_cons (ps_if (pt_cmpR op_eq (pv 1) (pe_gi (by rfl) T.i_BS_TICKET) (nomark _)) (pss_one (ps_ret (pe_call (ok_bs_ticket T) (hr.mono (by decide)) rfl T.g_bs_ticket T.F_bs_ticket.kp (b_bs_ticket T) .nil pass0 (pa_cons (pv 0) (pa_cons (pe_ix ix_list (pv 2) pe_int (fun _ _ => rfl)) pa_nil))))) pss_nil)
        (pss_cons (ps_if (pt_cmpR op_eq (pv 1) (pe_gi (by rfl) T.i_BS_CALL) (nomark _)) (pss_one (ps_ret (pe_call (ok_bs_call T) (hr.mono (by decide)) rfl T.g_bs_call T.F_bs_call.kp (b_bs_call T) .nil pass0 (pa_cons (pv 0) (pa_cons (pe_ix ix_list (pv 2) pe_int (fun _ _ => rfl)) pa_nil))))) pss_nil)
        (pss_cons (ps_if (pt_cmpR op_eq (pv 1) (pe_gi (by rfl) T.i_BS_DROP) (nomark _)) (pss_one (ps_ret (pe_call (ok_bs_drop T) (hr.mono (by decide)) rfl T.g_bs_drop T.F_bs_drop.kp (b_bs_drop T) .nil pass0 (pa_cons (pv 0) (pa_cons (pe_ix ix_list (pv 2) pe_int (fun _ _ => rfl)) pa_nil))))) pss_nil)
        (pss_one (ps_ret (pe_call (ok_bs_sail T) (hr.mono (by decide)) rfl T.g_bs_sail T.F_bs_sail.kp (b_bs_sail T) .nil pass0 (pa_cons (pv 0) (pa_cons (pe_ix ix_list (pv 2) pe_int (fun _ _ => rfl)) pa_nil)))))))))))))), ?_⟩
    cases c with
    | boat a' b' c' =>
      refine ⟨_, rfl, rfl, _, rfl, iteD rfl ?_⟩
      exact ⟨_, rfl, _, rfl, g, _, _, _, rfl, rfl, hg, at_of (j := 0) rfl rfl, _, rfl, g, _, _, _, rfl, rfl, hg, at_of (j := 1) rfl rfl, _, rfl, g, _, _, _, rfl, rfl, hg, at_of (j := 2) rfl rfl, a, a', b', c', rfl, q⟩
    | into a' b' =>
      refine ⟨_, rfl, rfl, _, rfl, iteDn (nev (by show ¬ ((2 : Nat) : Int) = 1; decide)) ?_⟩
      refine ⟨_, rfl, rfl, _, rfl, iteD rfl ?_⟩
      exact ⟨_, rfl, _, rfl, g, _, _, _, rfl, rfl, hg, at_of (j := 0) rfl rfl, _, rfl, g, _, _, _, rfl, rfl, hg, at_of (j := 1) rfl rfl, a, a', b', rfl, q⟩
    | out_ a' b' =>
      refine ⟨_, rfl, rfl, _, rfl, iteDn (nev (by show ¬ ((3 : Nat) : Int) = 1; decide)) ?_⟩
      refine ⟨_, rfl, rfl, _, rfl, iteDn (nev (by show ¬ ((3 : Nat) : Int) = 2; decide)) ?_⟩
      refine ⟨_, rfl, rfl, _, rfl, iteD rfl ?_⟩
      exact ⟨_, rfl, _, rfl, g, _, _, _, rfl, rfl, hg, at_of (j := 0) rfl rfl, _, rfl, g, _, _, _, rfl, rfl, hg, at_of (j := 1) rfl rfl, a, a', b', rfl, q⟩
    | go a' =>
      refine ⟨_, rfl, rfl, _, rfl, iteDn (nev (by show ¬ ((4 : Nat) : Int) = 1; decide)) ?_⟩
      refine ⟨_, rfl, rfl, _, rfl, iteDn (nev (by show ¬ ((4 : Nat) : Int) = 2; decide)) ?_⟩
      refine ⟨_, rfl, rfl, _, rfl, iteDn (nev (by show ¬ ((4 : Nat) : Int) = 3; decide)) ?_⟩
      refine ⟨_, rfl, rfl, _, rfl, iteD rfl ?_⟩
      exact ⟨_, rfl, _, rfl, g, _, _, _, rfl, rfl, hg, at_of (j := 0) rfl rfl, a, a', rfl, q⟩
    | minutes a' =>
      refine ⟨_, rfl, rfl, _, rfl, iteDn (nev (by show ¬ ((5 : Nat) : Int) = 1; decide)) ?_⟩
      refine ⟨_, rfl, rfl, _, rfl, iteDn (nev (by show ¬ ((5 : Nat) : Int) = 2; decide)) ?_⟩
      refine ⟨_, rfl, rfl, _, rfl, iteDn (nev (by show ¬ ((5 : Nat) : Int) = 3; decide)) ?_⟩
      refine ⟨_, rfl, rfl, _, rfl, iteDn (nev (by show ¬ ((5 : Nat) : Int) = 4; decide)) ?_⟩
      refine ⟨_, rfl, rfl, _, rfl, iteD rfl ?_⟩
      exact ⟨_, rfl, _, rfl, g, _, _, _, rfl, rfl, hg, at_of (j := 0) rfl rfl, a, a', rfl, q⟩
    | swell a' =>
      refine ⟨_, rfl, rfl, _, rfl, iteDn (nev (by show ¬ ((6 : Nat) : Int) = 1; decide)) ?_⟩
      refine ⟨_, rfl, rfl, _, rfl, iteDn (nev (by show ¬ ((6 : Nat) : Int) = 2; decide)) ?_⟩
      refine ⟨_, rfl, rfl, _, rfl, iteDn (nev (by show ¬ ((6 : Nat) : Int) = 3; decide)) ?_⟩
      refine ⟨_, rfl, rfl, _, rfl, iteDn (nev (by show ¬ ((6 : Nat) : Int) = 4; decide)) ?_⟩
      refine ⟨_, rfl, rfl, _, rfl, iteDn (nev (by show ¬ ((6 : Nat) : Int) = 5; decide)) ?_⟩
      refine ⟨_, rfl, rfl, _, rfl, iteD rfl ?_⟩
      exact ⟨_, rfl, _, rfl, g, _, _, _, rfl, rfl, hg, at_of (j := 0) rfl rfl, a, a', rfl, q⟩
    | ticket a' =>
      refine ⟨_, rfl, rfl, _, rfl, iteDn (nev (by show ¬ ((7 : Nat) : Int) = 1; decide)) ?_⟩
      refine ⟨_, rfl, rfl, _, rfl, iteDn (nev (by show ¬ ((7 : Nat) : Int) = 2; decide)) ?_⟩
      refine ⟨_, rfl, rfl, _, rfl, iteDn (nev (by show ¬ ((7 : Nat) : Int) = 3; decide)) ?_⟩
      refine ⟨_, rfl, rfl, _, rfl, iteDn (nev (by show ¬ ((7 : Nat) : Int) = 4; decide)) ?_⟩
      refine ⟨_, rfl, rfl, _, rfl, iteDn (nev (by show ¬ ((7 : Nat) : Int) = 5; decide)) ?_⟩
      refine ⟨_, rfl, rfl, _, rfl, iteDn (nev (by show ¬ ((7 : Nat) : Int) = 6; decide)) ?_⟩
      refine ⟨_, rfl, rfl, _, rfl, iteD rfl ?_⟩
      exact ⟨_, rfl, _, rfl, g, _, _, _, rfl, rfl, hg, at_of (j := 0) rfl rfl, a, a', rfl, q⟩
    | call_ a' =>
      refine ⟨_, rfl, rfl, _, rfl, iteDn (nev (by show ¬ ((8 : Nat) : Int) = 1; decide)) ?_⟩
      refine ⟨_, rfl, rfl, _, rfl, iteDn (nev (by show ¬ ((8 : Nat) : Int) = 2; decide)) ?_⟩
      refine ⟨_, rfl, rfl, _, rfl, iteDn (nev (by show ¬ ((8 : Nat) : Int) = 3; decide)) ?_⟩
      refine ⟨_, rfl, rfl, _, rfl, iteDn (nev (by show ¬ ((8 : Nat) : Int) = 4; decide)) ?_⟩
      refine ⟨_, rfl, rfl, _, rfl, iteDn (nev (by show ¬ ((8 : Nat) : Int) = 5; decide)) ?_⟩
      refine ⟨_, rfl, rfl, _, rfl, iteDn (nev (by show ¬ ((8 : Nat) : Int) = 6; decide)) ?_⟩
      refine ⟨_, rfl, rfl, _, rfl, iteDn (nev (by show ¬ ((8 : Nat) : Int) = 7; decide)) ?_⟩
      refine ⟨_, rfl, rfl, _, rfl, iteD rfl ?_⟩
      exact ⟨_, rfl, _, rfl, g, _, _, _, rfl, rfl, hg, at_of (j := 0) rfl rfl, a, a', rfl, q⟩
    | drop a' =>
      refine ⟨_, rfl, rfl, _, rfl, iteDn (nev (by show ¬ ((9 : Nat) : Int) = 1; decide)) ?_⟩
      refine ⟨_, rfl, rfl, _, rfl, iteDn (nev (by show ¬ ((9 : Nat) : Int) = 2; decide)) ?_⟩
      refine ⟨_, rfl, rfl, _, rfl, iteDn (nev (by show ¬ ((9 : Nat) : Int) = 3; decide)) ?_⟩
      refine ⟨_, rfl, rfl, _, rfl, iteDn (nev (by show ¬ ((9 : Nat) : Int) = 4; decide)) ?_⟩
      refine ⟨_, rfl, rfl, _, rfl, iteDn (nev (by show ¬ ((9 : Nat) : Int) = 5; decide)) ?_⟩
      refine ⟨_, rfl, rfl, _, rfl, iteDn (nev (by show ¬ ((9 : Nat) : Int) = 6; decide)) ?_⟩
      refine ⟨_, rfl, rfl, _, rfl, iteDn (nev (by show ¬ ((9 : Nat) : Int) = 7; decide)) ?_⟩
      refine ⟨_, rfl, rfl, _, rfl, iteDn (nev (by show ¬ ((9 : Nat) : Int) = 8; decide)) ?_⟩
      refine ⟨_, rfl, rfl, _, rfl, iteD rfl ?_⟩
      exact ⟨_, rfl, _, rfl, g, _, _, _, rfl, rfl, hg, at_of (j := 0) rfl rfl, a, a', rfl, q⟩
    | sail a' =>
      refine ⟨_, rfl, rfl, _, rfl, iteDn (nev (by show ¬ ((10 : Nat) : Int) = 1; decide)) ?_⟩
      refine ⟨_, rfl, rfl, _, rfl, iteDn (nev (by show ¬ ((10 : Nat) : Int) = 2; decide)) ?_⟩
      refine ⟨_, rfl, rfl, _, rfl, iteDn (nev (by show ¬ ((10 : Nat) : Int) = 3; decide)) ?_⟩
      refine ⟨_, rfl, rfl, _, rfl, iteDn (nev (by show ¬ ((10 : Nat) : Int) = 4; decide)) ?_⟩
      refine ⟨_, rfl, rfl, _, rfl, iteDn (nev (by show ¬ ((10 : Nat) : Int) = 5; decide)) ?_⟩
      refine ⟨_, rfl, rfl, _, rfl, iteDn (nev (by show ¬ ((10 : Nat) : Int) = 6; decide)) ?_⟩
      refine ⟨_, rfl, rfl, _, rfl, iteDn (nev (by show ¬ ((10 : Nat) : Int) = 7; decide)) ?_⟩
      refine ⟨_, rfl, rfl, _, rfl, iteDn (nev (by show ¬ ((10 : Nat) : Int) = 8; decide)) ?_⟩
      refine ⟨_, rfl, rfl, _, rfl, iteDn (nev (by show ¬ ((10 : Nat) : Int) = 9; decide)) ?_⟩
      exact ⟨_, rfl, _, rfl, g, _, _, _, rfl, rfl, hg, at_of (j := 0) rfl rfl, a, a', rfl, q⟩
    | _ => cases hc
def sp_Ship_init (K : PySem.W.Frag) (A : Ad) : Sp := fun vs H Q _ => ∃ (p dx : Addr), vs = [.ref p] ∧ H p = some (.ins A.c_Ship dx []) ∧
  ∀ (H' : Hp) (ch dc bf ud : Addr), H' p = some (.ins A.c_Ship dx (hF .non ch)) → H' ch = some (.ins A.c_Changes dc (cF bf ud)) → H' bf = some (.lst []) → H' ud = some (.lst []) → bf ≠ ud → p ≠ ch → H ch = none → H bf = none → H ud = none → (∀ b o, H b = some o → b ≠ p → H' b = some o) → Q .non H'
theorem ok_Ship_init (T : Txt K mg A) : FnOk P w K mg base CX0 3 A.f_Ship_init A.d_Ship_init P_Ship_init (sp_Ship_init K A) := by
  refine T.F_Ship_init.ok sc_Ship_init (fun vs H Q E h => ?_) (fun cdv Ar outer s0 H vs Q E hr h => ?_)
  · obtain ⟨p, dx, rfl, _⟩ := h
    rfl
  · obtain ⟨p, dx, rfl, hp, k⟩ := h
    refine ⟨_, (pss_cons (ps_fld (pv 0) pe_non rfl)
        (pss_one (ps_fld (pv 0) (pe_make0 T.mk_Changes (ok_Changes_init T) (hr.mono (by decide)) rfl T.g_Changes (b_Changes_init T) .nil pass0) rfl))), ?_⟩
    refine ⟨_, rfl, p, A.c_Ship, dx, _, rfl, hp, T.cl_Ship, T.n_Ship_state, lt1000 few0, ?_⟩
    intro ch dc nch ndc nn
    refine ⟨ch, dc, rfl, upd_same, fun H1 bf ud e1 eb eu nbu fb fu k1 => ⟨rfl, ?_⟩⟩
    have S1 : Same (upd H p (.ins A.c_Ship dx (putF "state" .non []))) H1 := Same.made nch ndc k1
    have hp1 := S1 _ _ upd_same
    have npc : p ≠ ch := ne_of_none upd_same nch
    have free : ∀ b, (upd H p (.ins A.c_Ship dx (putF "state" .non []))) b = none → H b = none ∧ b ≠ p := fun b e => by
      by_cases q : b = p
      · rw [q, upd_same] at e; cases e
      · rw [upd_ne q] at e; exact ⟨e, q⟩
    have fb' : (upd H p (.ins A.c_Ship dx (putF "state" .non []))) bf = none := by
      have z := fb
      by_cases q : bf = ch
      · rw [q, upd_same] at z; cases z
      · rw [upd_ne q] at z
        by_cases q2 : bf = dc
        · rw [q2, upd_same] at z; cases z
        · rw [upd_ne q2] at z; exact z
    have fu' : (upd H p (.ins A.c_Ship dx (putF "state" .non []))) ud = none := by
      have z := fu
      by_cases q : ud = ch
      · rw [q, upd_same] at z; cases z
      · rw [upd_ne q] at z
        by_cases q2 : ud = dc
        · rw [q2, upd_same] at z; cases z
        · rw [upd_ne q2] at z; exact z
    refine ⟨_, rfl, p, A.c_Ship, dx, _, rfl, hp1, T.cl_Ship, T.n_Ship_changes, lt1000 (few few0), ?_⟩
    refine k _ ch dc bf ud (Eq.trans upd_same (congrArg (fun q => some (HO.ins A.c_Ship dx q)) (hF_new _ _))) ?_ ?_ ?_ nbu npc (free _ nch).1 (free _ fb').1 (free _ fu').1 fun b o e hb => ?_
    · rw [upd_ne npc.symm]; exact e1
    · rw [upd_ne (free _ fb').2]; exact eb
    · rw [upd_ne (free _ fu').2]; exact eu
    · rw [upd_ne hb]
      exact S1 _ _ (by rw [upd_ne hb]; exact e)
end
end Bts

end
section
set_option Elab.async false
set_option linter.all false
set_option maxRecDepth 100000
set_option maxHeartbeats 4000000
namespace Bts
open PySem PySem.Spec PyProof.Rows L2
section
variable {P : Program} {w : World} {K : PySem.W.Frag} {mg : Str → Option Value} {base : Heap} {A : Ad}
/-- what the object does with a call -/
def stp (S : Option Km439.Desk) (c : Km439.Call) : Option Km439.Desk × List Int := match S with
  | some D => (some (Km439.act D c).1, Km439Neutral.told (Km439.act D c).2)
  | none => if Km439Neutral.isStart c = true then (if (Km439Neutral.told (Km439.act (Km439.fresh 1 1) c).2).headD 0 < 0 then none else some (Km439.act (Km439.fresh 1 1) c).1, Km439Neutral.told (Km439.act (Km439.fresh 1 1) c).2) else (none, [])
/-- a call to the ship at sh -/
def Run (A : Ad) (H : Hp) (sh : Addr) (c : Km439.Call) (Q : VK) : Prop := ∃ (H0 : Hp) (S : Option Km439.Desk), Same H0 H ∧ ShipAt A H0 H sh S ∧ (S = none → Km439Neutral.isStart c = true) ∧
  ∀ (H' : Hp) (p : Addr), Same H0 H' → ShipAt A H0 H' sh (stp S c).1 → H' p = some (.lst ((stp S c).2.map V.int)) → H0 p = none → Q (.ref p) H'
theorem start_no {S : Option Km439.Desk} {n t : Nat} (h : n = 0 ∨ Km439.PERSONS < n ∨ t = 0 ∨ Km439.LATEST < t) : stp S (.start n t) = (S, [-22]) := by
  cases S with
  | none =>
    have e : Km439.act (Km439.fresh 1 1) (.start n t) = (Km439.fresh 1 1, Km439.only (-22)) := by simp only [Km439.act, if_pos h]
    unfold stp
    simp only [e]
    rfl
  | some D =>
    have e : Km439.act D (.start n t) = (D, Km439.only (-22)) := by simp only [Km439.act, if_pos h]
    unfold stp
    simp only [e]
    rfl
theorem start_yes {S : Option Km439.Desk} {n t : Nat} (h : ¬ (n = 0 ∨ Km439.PERSONS < n ∨ t = 0 ∨ Km439.LATEST < t)) : stp S (.start n t) = (some ⟨Km439.opened n t, [], []⟩, [0]) := by
  cases S with
  | none =>
    have e : Km439.act (Km439.fresh 1 1) (.start n t) = (⟨Km439.opened n t, [], []⟩, Km439.only 0) := by simp only [Km439.act, if_neg h]
    unfold stp
    simp only [e]
    rfl
  | some D =>
    have e : Km439.act D (.start n t) = (⟨Km439.opened n t, [], []⟩, Km439.only 0) := by simp only [Km439.act, if_neg h]
    unfold stp
    simp only [e]
    rfl
theorem ShipAt.any {H0 H : Hp} {sh : Addr} {S : Option Km439.Desk} (Z : ShipAt A H0 H sh S) : ∃ d v ch dc bf ud ps fs, ShX A H0 H sh d v ch dc bf ud ps fs := by
  cases S with
  | none => obtain ⟨d, ch, dc, bf, ud, X⟩ := Z; exact ⟨d, _, ch, dc, bf, ud, _, _, X⟩
  | some D => obtain ⟨d, st, ch, dc, bf, ud, ps, fs, X, _⟩ := Z; exact ⟨d, _, ch, dc, bf, ud, ps, fs, X⟩
theorem upd_free {H : Hp} {a b : Addr} {o : HO} (h : (upd H a o) b = none) : H b = none ∧ b ≠ a := by
  by_cases q : b = a
  · rw [q, upd_same] at h; cases h
  · rw [upd_ne q] at h; exact ⟨h, q⟩
def sp_Ship_begin (K : PySem.W.Frag) (A : Ad) : Sp := fun vs H Q _ => ∃ (sh : Addr) (n t : Nat), vs = [.ref sh, .int n, .int t] ∧ Run A H sh (.start n t) Q
theorem ok_Ship_begin (T : Txt K mg A) : FnOk P w K mg base CX0 3 A.f_Ship_begin A.d_Ship_begin P_Ship_begin (sp_Ship_begin K A) := by
  refine T.F_Ship_begin.ok sc_Ship_begin (fun vs H Q E h => ?_) (fun cdv Ar outer s0 H vs Q E hr h => ?_)
  · obtain ⟨sh, n, t, rfl, _⟩ := h
    rfl
  · obtain ⟨sh, n, t, rfl, H0, SS, S, Z, _, q⟩ := h
    obtain ⟨d, v, ch, dc, bf, ud, ps, fs, X⟩ := Z.any
    have R : (n = 0 ∨ Km439.PERSONS < n ∨ t = 0 ∨ Km439.LATEST < t) → ∀ p, H p = none → Q (.ref p) (upd H p (.lst [.int (-22)])) := fun c p hp => by
      rw [start_no c] at q
      exact q _ p (S.trans (Same.new hp _)) (Z.same (Same.new hp _)) upd_same (S.free hp)
    unfold Km439.PERSONS Km439.LATEST at R
    refine ⟨_, (pss_cons (ps_if (pt_not (PW.pt (pw_and (pt_chain op_le op_le pe_int (pv 1) (pe_gi (by rfl) T.i_MOST_PERSONS)) (pw_and1 (pt_chain op_le op_le pe_int (pv 2) (pe_gi (by rfl) T.i_LAST_MINUTE)))))) (pss_one (ps_ret (pe_lst (pa_cons (pe_gi (by rfl) T.i_WRONG) pa_nil)))) pss_nil)
        (pss_cons (ps_fld (pv 0) (pe_make T.mk_State (ok_State_init T) (hr.mono (by decide)) rfl T.g_State (b_State_init T) .nil pass0 (pa_cons (pv 1) (pa_cons (pv 2) pa_nil))) rfl)
        (pss_cons (ps_fld (pv 0) (pe_make0 T.mk_Changes (ok_Changes_init T) (hr.mono (by decide)) rfl T.g_Changes (b_Changes_init T) .nil pass0) rfl)
        (pss_one (ps_ret (pe_lst (pa_cons pe_int pa_nil))))))), ?_⟩
    refine ⟨_, rfl, _, _, rfl, rfl, _, rfl, ?_⟩
    by_cases a1 : n = 0
    · exact iteDn (by omega) ⟨_, rfl, iteF (iteT ⟨(by show 1 ≤ sizeLine; decide), R (by omega)⟩)⟩
    refine iteD (by omega) ⟨_, _, rfl, rfl, _, rfl, ?_⟩
    by_cases a2 : 5000 < n
    · exact iteDn (by omega) (iteT ⟨(by show 1 ≤ sizeLine; decide), R (by omega)⟩)
    refine iteD (by omega) ⟨_, rfl, _, _, rfl, rfl, _, rfl, ?_⟩
    by_cases a3 : t = 0
    · exact iteDn (by omega) ⟨_, rfl, iteT ⟨(by show 1 ≤ sizeLine; decide), R (by omega)⟩⟩
    refine iteD (by omega) ⟨_, _, rfl, rfl, _, rfl, ?_⟩
    by_cases a4 : 100000 < t
    · exact iteN (by omega) ⟨(by show 1 ≤ sizeLine; decide), R (by omega)⟩
    refine iteNS (by omega) ?_
    have c0 : ¬ (n = 0 ∨ Km439.PERSONS < n ∨ t = 0 ∨ Km439.LATEST < t) := by unfold Km439.PERSONS Km439.LATEST; omega
    rw [start_yes c0] at q
    -- self.state = State(persons, sail)
    refine ⟨_, rfl, _, rfl, fun st dx nst ndx nn => ⟨st, dx, n, t, rfl, upd_same, fun H1 bl ql e1 eb eq nbq fb fq k1 => ⟨rfl, ?_⟩⟩⟩
    have S1 : Same H H1 := Same.made nst ndx k1
    have fbH : H bl = none := (upd_free (upd_free fb).1).1
    have fqH : H ql = none := (upd_free (upd_free fq).1).1
    have X1 := X.same S1
    refine ⟨_, rfl, sh, _, d, _, rfl, X1.hsh, T.cl_Ship, T.n_Ship_state, (by show 2 < 1000; decide), ?_⟩
    have p1 : putF "state" (.ref st) (hF v ch) = hF (.ref st) ch := by rw [hF_put_state]; rfl
    rw [p1]
    have nss : sh ≠ st := ne_of_none X.hsh nst
    have nsb : sh ≠ bl := ne_of_none X.hsh fbH
    have nsq : sh ≠ ql := ne_of_none X.hsh fqH
    -- self.changes = Changes()
    intro ch' dc' nch ndc nn'
    refine ⟨ch', dc', rfl, upd_same, fun H2 bf' ud' e2 eb2 eu2 nbu fb2 fu2 k2 => ⟨rfl, ?_⟩⟩
    have S2 : Same (upd H1 sh (.ins A.c_Ship d (hF (.ref st) ch))) H2 := Same.made nch ndc k2
    have hs2 := S2 _ _ upd_same
    have st2 : H2 st = some (.ins A.c_State dx (sF (Km439.opened n t) bl ql)) := S2 _ _ (by rw [upd_ne nss.symm]; exact e1)
    have bl2 : H2 bl = some (.lst []) := S2 _ _ (by rw [upd_ne nsb.symm]; exact eb)
    have ql2 : H2 ql = some (.lst []) := S2 _ _ (by rw [upd_ne nsq.symm]; exact eq)
    have fch := upd_free nch
    have fbf := upd_free (upd_free (upd_free fb2).1).1
    have fud := upd_free (upd_free (upd_free fu2).1).1
    refine ⟨_, rfl, sh, _, d, _, rfl, hs2, T.cl_Ship, T.n_Ship_changes, (by show 2 < 1000; decide), ?_⟩
    have p2 : putF "changes" (.ref ch') (hF (.ref st) ch) = hF (.ref st) ch' := by rw [hF_put_changes]; rfl
    rw [p2]
    refine ⟨(by show 1 ≤ sizeLine; decide), fun p hp => ?_⟩
    have S3 : Same H0 (upd H2 sh (.ins A.c_Ship d (hF (.ref st) ch'))) := Same.put ((Same.put (S.trans S1) X.f1 _).trans S2) X.f1 _
    have X3 : ShX A H0 (upd H2 sh (.ins A.c_Ship d (hF (.ref st) ch'))) sh d (.ref st) ch' dc' bf' ud' [] [] := by
      refine ⟨upd_same, ?_, ?_, ?_, nbu, fch.2.symm, X.f1, S.free (S1.free fch.1), S.free (S1.free fbf.1), S.free (S1.free fud.1)⟩
      · rw [upd_ne fch.2]; exact e2
      · rw [upd_ne fbf.2]; exact eb2
      · rw [upd_ne fud.2]; exact eu2
    have ok1 : ∀ x, H1 x ≠ none → H x = none → x ≠ sh → okS H0 sh ch' bf' ud' x := fun x h1 h2 h3 => ⟨S.free h2, h3, fun z => h1 (z ▸ fch.1), fun z => h1 (z ▸ fbf.1), fun z => h1 (z ▸ fud.1)⟩
    have Y3 : StX A (okS H0 sh ch' bf' ud') (upd H2 sh (.ins A.c_Ship d (hF (.ref st) ch'))) st dx bl ql [] [] (Km439.opened n t) := by
      refine ⟨?_, ?_, ?_, rfl, fun i x b h1 => (by simp at h1), rfl, fun i x b h1 => (by simp at h1), List.nodup_nil, nbq, ok1 st (by rw [e1]; intro z; cases z) nst nss.symm, ok1 bl (by rw [eb]; intro z; cases z) fbH nsb.symm, ok1 ql (by rw [eq]; intro z; cases z) fqH nsq.symm, fun x hx => (by cases hx)⟩
      · rw [upd_ne nss.symm]; exact st2
      · rw [upd_ne nsb.symm]; exact bl2
      · rw [upd_ne nsq.symm]; exact ql2
    refine q _ p (S3.trans (Same.new hp _)) ?_ upd_same (S3.free hp)
    exact ShipAt.same (S := some ⟨Km439.opened n t, [], []⟩) ⟨d, st, ch', dc', bf', ud', [], [], X3, Y3.at_, .nil, .nil, WD.fresh c0⟩ (Same.new hp _)
def sp_Ship_change (K : PySem.W.Frag) (A : Ad) : Sp := fun vs H Q _ => ∃ (sh g : Addr) (c : Km439.Call), vs = [.ref sh, .int (code c).1, .ref g] ∧ isChg c = true ∧ SqL K H g (vints (code c).2) ∧ Run A H sh c Q
theorem chg_not_start {c : Km439.Call} (h : isChg c = true) (z : Km439Neutral.isStart c = true) : False := by
  cases c <;> first | (cases z; done) | (cases h; done)
theorem rev_take (D : Km439.Desk) (h : D.past.length ≤ 30) : ((D.now :: D.past).take Km439.PAST).reverse = (D.past.reverse ++ [D.now]).drop (D.past.length + 1 - 30) := by
  unfold Km439.PAST
  rw [List.reverse_take, List.reverse_cons, List.length_cons]
theorem ok_Ship_change (T : Txt K mg A) : FnOk P w K mg base CX0 6 A.f_Ship_change A.d_Ship_change P_Ship_change (sp_Ship_change K A) := by
  refine T.F_Ship_change.ok sc_Ship_change (fun vs H Q E h => ?_) (fun cdv Ar outer s0 H vs Q E hr h => ?_)
  · obtain ⟨sh, g, c, rfl, _⟩ := h
    rfl
  · obtain ⟨sh, g, c, rfl, hc, hg, H0, SS, S, Z, hns, q⟩ := h
    cases SS with
    | none =>
      exact (chg_not_start hc (hns rfl)).elim
    | some D =>
      obtain ⟨d, st, ch, dc, bf, ud, ps, fs, X, Y, P1, P2, W⟩ := id Z
      obtain ⟨dx, bl, ql, as, ts, Y0⟩ := id Y
      have AC := act_chg D hc
      refine ⟨_, (pss_cons (ps_set (i := 3) sc_Ship_change.nd rfl (by first | exact Or.inl rfl | exact Or.inr rfl) (pe_meth0 (pe_fld (pv 0) rfl) T.cl_State T.m_State_twin (ok_State_twin T) (hr.mono (by decide)) (b_State_twin T) .nil pass0))
        (pss_cons (ps_set (i := 4) sc_Ship_change.nd rfl (by first | exact Or.inl rfl | exact Or.inr rfl) (pe_call (ok_changed T) (hr.mono (by decide)) rfl T.g_changed T.F_changed.kp (b_changed T) .nil pass0 (pa_cons (pv 3) (pa_cons (pv 1) (pa_cons (pv 2) pa_nil)))))
        (pss_cons (ps_if (pt_cmpR op_ge (pe_ix ix_list (pv 4) pe_int (fun _ _ => rfl)) pe_int (nomark _)) (pss_cons (ps_expr (pe_meth (pe_fld (pv 0) rfl) T.cl_Changes T.m_Changes_keep (ok_Changes_keep T) (hr.mono (by decide)) (b_Changes_keep T) .nil pass0 (pa_cons (pe_fld (pv 0) rfl) pa_nil)))
        (pss_one (ps_fld (pv 0) (pv 3) rfl))) pss_nil)
        (pss_one (ps_ret (pv 4)))))), ?_⟩
      refine ⟨_, rfl, sh, _, d, _, _, rfl, X.hsh, T.cl_Ship, T.n_Ship_state, hF_state _ _, st, dx, _, rfl, Y0.st, sF_no_twin _ bl ql, st, D.now, _, rfl, Y, W.now, fun H1 y S1 Y1 => ?_⟩
      refine ⟨_, rfl, _, rfl, _, rfl, y, g, c, rfl, hc, S1.seq hg, H, D.now, S1, Y1, W.now, fun H2 p S2 Y2 hp fp => ?_⟩
      refine ⟨_, rfl, p, _, _, _, rfl, rfl, SqL.of hp, at_of (j := 0) rfl rfl, _, _, rfl, rfl, _, rfl, ?_⟩
      have es : stp (some D) c = (some (if 0 ≤ (ans D.now c).value then D.become (nxt D.now c) else D), Km439Neutral.told (ans D.now c)) := by
        unfold stp
        simp only [AC.eq]
      rw [es] at q
      have X2 := X.same S2
      by_cases c0 : 0 ≤ (ans D.now c).value
      · rw [if_pos c0] at q
        refine iteD c0 ?_
        have plen : ps.length ≤ 30 := by have h1 := pair_len P1; have h2 := W.n; rw [List.length_reverse] at h1; omega
        have hpl : ps.length = D.past.length := by have h1 := pair_len P1; rw [List.length_reverse] at h1; exact h1
        refine ⟨_, rfl, sh, _, d, _, _, rfl, X2.hsh, T.cl_Ship, T.n_Ship_changes, hF_changes _ _, ch, dc, _, rfl, X2.hch, cF_no_keep bf ud, _, rfl, sh, _, d, _, _, rfl, X2.hsh, T.cl_Ship, T.n_Ship_state, hF_state _ _, ch, dc, bf, ud, st, ps, rfl, X2.hch, X2.hbf, plen, fun H3 u e1 e2 e3 fu k3 => ?_⟩
        have nsb : sh ≠ bf := ne_of X2.hsh X2.hbf (by intro z; cases z)
        have ncb : ch ≠ bf := ne_of X2.hch X2.hbf (by intro z; cases z)
        have s3 : H3 sh = some (.ins A.c_Ship d (hF (.ref st) ch)) := k3 _ _ X2.hsh X.nsc nsb
        have nsu : sh ≠ u := ne_of_none X2.hsh fu
        have ncu : ch ≠ u := ne_of_none X2.hch fu
        have nbu : bf ≠ u := ne_of_none X2.hbf fu
        refine ⟨_, rfl, _, rfl, sh, _, d, _, rfl, s3, T.cl_Ship, T.n_Ship_state, (by show 2 < 1000; decide), ?_⟩
        have p1 : putF "state" (.ref y) (hF (.ref st) ch) = hF (.ref y) ch := by rw [hF_put_state]; rfl
        rw [p1]
        refine ⟨_, rfl, ?_⟩
        -- what others see
        have S4 : Same H0 (upd H3 sh (.ins A.c_Ship d (hF (.ref y) ch))) := Same.put (fun b o e => k3 b o (S2 _ _ (S _ _ e)) (ne_of_none e X.f2) (ne_of_none e X.f3)) X.f1 _
        have pch : p ≠ ch := fun z => by rw [z, X.hch] at fp; cases fp
        have pbf : p ≠ bf := fun z => by rw [z, X.hbf] at fp; cases fp
        have psh : p ≠ sh := fun z => by rw [z, X.hsh] at fp; cases fp
        have hp4 : (upd H3 sh (.ins A.c_Ship d (hF (.ref y) ch))) p = some (.lst ((Km439Neutral.told (ans D.now c)).map V.int)) := by rw [upd_ne psh]; exact k3 _ _ hp pch pbf
        have X4 : ShX A H0 (upd H3 sh (.ins A.c_Ship d (hF (.ref y) ch))) sh d (.ref y) ch dc bf u (keepL ps st) [] := by
          refine ⟨upd_same, ?_, ?_, ?_, nbu, X.nsc, X.f1, X.f2, X.f3, S.free (S2.free fu)⟩
          · rw [upd_ne X.nsc.symm]; exact e1
          · rw [upd_ne nsb.symm]; exact e2
          · rw [upd_ne nsu.symm]; exact e3
        -- a state of before
        have up : ∀ {x : Addr} {s : Km439.Sea}, StAt A (fun z => okS H0 sh ch bf ud z ∧ z ≠ u) H2 x s → StAt A (okS H0 sh ch bf u) (upd H3 sh (.ins A.c_Ship d (hF (.ref y) ch))) x s := fun {x s} V => by
          have V1 := V.weak (ok' := okS H0 sh ch bf u) fun z hz => ⟨hz.1.1, hz.1.2.1, hz.1.2.2.1, hz.1.2.2.2.1, hz.2⟩
          have V2 := V1.frame (H' := H3) (Pr := fun z => z ≠ ch ∧ z ≠ bf) (fun b o e n => k3 b o e n.1 n.2) (fun z hz => ⟨hz.2.2.1, hz.2.2.2.1⟩) (fun t xs e => ⟨ne_of e X2.hch (by intro z; cases z), ne_of e X2.hbf (by intro z; cases z)⟩)
          exact V2.out (fun z => z.2.1 rfl) s3 (by intro xs z; cases z)
        have old : ∀ {x : Addr} {s : Km439.Sea}, StAt A (okS H0 sh ch bf ud) H x s → StAt A (okS H0 sh ch bf u) (upd H3 sh (.ins A.c_Ship d (hF (.ref y) ch))) x s := fun {x s} V => up ((V.same S2).apart fu)
        have Y4 : StAt A (okS H0 sh ch bf u) (upd H3 sh (.ins A.c_Ship d (hF (.ref y) ch))) y (nxt D.now c) := by
          refine up ((Y2.weak (ok' := okS H0 sh ch bf ud) fun z hz => ?_).apart fu)
          exact ⟨S.free hz, fun e => (by rw [e] at hz; exact absurd (X.hsh.symm.trans hz) (by intro q; cases q)), fun e => (by rw [e] at hz; exact absurd (X.hch.symm.trans hz) (by intro q; cases q)), fun e => (by rw [e] at hz; exact absurd (X.hbf.symm.trans hz) (by intro q; cases q)), fun e => (by rw [e] at hz; exact absurd (X.hud.symm.trans hz) (by intro q; cases q))⟩
        have P3 : Paired (fun x s => StAt A (okS H0 sh ch bf u) (upd H3 sh (.ins A.c_Ship d (hF (.ref y) ch))) x s) (keepL ps st) (D.become (nxt D.now c)).past.reverse := by
          show Paired _ (keepL ps st) ((D.now :: D.past).take Km439.PAST).reverse
          rw [rev_take D (by omega)]
          unfold keepL
          rw [hpl]
          exact pair_drop _ (pair_app (pair_imp (fun _ _ z => old z) P1) (.cons (old Y) .nil))
        exact q _ p S4 ⟨d, y, ch, dc, bf, u, _, [], X4, Y4, P3, .nil, W.become (AC.wf W.now)⟩ hp4 (S.free fp)
      · rw [if_neg c0] at q
        refine iteDn c0 ⟨_, rfl, q _ p (S.trans S2) (Z.same S2) hp (S.free fp)⟩
end
end Bts

end
section
set_option Elab.async false
set_option linter.all false
set_option maxRecDepth 100000
set_option maxHeartbeats 4000000
namespace Bts
open PySem PySem.Spec PyProof.Rows L2
section
variable {P : Program} {w : World} {K : PySem.W.Frag} {mg : Str → Option Value} {base : Heap} {A : Ad}
theorem pair_snoc {α β : Type} {F : α → β → Prop} : ∀ {b : List β} {a : List α} {y : β}, Paired F a (b ++ [y]) → ∃ a' x, a = a' ++ [x] ∧ Paired F a' b ∧ F x y
  | [], _, _, h => by
    cases h with
    | cons r t =>
      cases t
      exact ⟨[], _, rfl, .nil, r⟩
  | _ :: b, _, _, h => by
    cases h with
    | cons r t =>
      obtain ⟨a', x, rfl, p, f⟩ := pair_snoc t
      exact ⟨_ :: a', x, rfl, .cons r p, f⟩
def sp_asked (K : PySem.W.Frag) (A : Ad) : Sp := fun vs H Q _ => ∃ (a g : Addr) (c : Km439.Call), vs = [.ref a, .int (code c).1, .ref g] ∧ isAsk c = true ∧ SqL K H g (vints (code c).2) ∧ Ask A H a c Q
theorem ok_asked (T : Txt K mg A) : FnOk P w K mg base CX0 7 A.f_asked A.d_asked P_asked (sp_asked K A) := by
  refine T.F_asked.ok sc_asked (fun vs H Q E h => ?_) (fun cdv Ar outer s0 H vs Q E hr h => ?_)
  · obtain ⟨a, g, c, rfl, _⟩ := h
    rfl
  · obtain ⟨a, g, c, rfl, hc, hg, q⟩ := h
    refine ⟨_, (pss_cons (ps_if (pt_cmpR op_eq (pv 1) (pe_gi (by rfl) T.i_BS_HOME) (nomark _)) (pss_one (ps_ret (pe_call (ok_bs_home T) (hr.mono (by decide)) rfl T.g_bs_home T.F_bs_home.kp (b_bs_home T) .nil pass0 (pa_cons (pv 0) pa_nil)))) pss_nil)
        (pss_cons (ps_if (pt_cmpR op_eq (pv 1) (pe_gi (by rfl) T.i_BS_SLACK) (nomark _)) (pss_one (ps_ret (pe_call (ok_bs_slack T) (hr.mono (by decide)) rfl T.g_bs_slack T.F_bs_slack.kp (b_bs_slack T) .nil pass0 (pa_cons (pv 0) pa_nil)))) pss_nil)
        (pss_cons (ps_if (pt_cmpR op_eq (pv 1) (pe_gi (by rfl) T.i_BS_BROUGHT) (nomark _)) (pss_one (ps_ret (pe_call (ok_bs_brought T) (hr.mono (by decide)) rfl T.g_bs_brought T.F_bs_brought.kp (b_bs_brought T) .nil pass0 (pa_cons (pv 0) (pa_cons (pe_ix ix_list (pv 2) pe_int (fun _ _ => rfl)) pa_nil))))) pss_nil)
        (pss_cons (ps_if (pt_cmpR op_eq (pv 1) (pe_gi (by rfl) T.i_BS_FEWEST) (nomark _)) (pss_one (ps_ret (pe_call (ok_bs_fewest T) (hr.mono (by decide)) rfl T.g_bs_fewest T.F_bs_fewest.kp (b_bs_fewest T) .nil pass0 (pa_cons (pv 0) (pa_cons (pe_ix ix_list (pv 2) pe_int (fun _ _ => rfl)) pa_nil))))) pss_nil)
        (pss_cons (ps_if (pt_cmpR op_eq (pv 1) (pe_gi (by rfl) T.i_BS_NEXT) (nomark _)) (pss_one (ps_ret (pe_call (ok_bs_next T) (hr.mono (by decide)) rfl T.g_bs_next T.F_bs_next.kp (b_bs_next T) .nil pass0 (pa_cons (pv 0) pa_nil)))) pss_nil)
        (pss_cons (ps_if (pt_cmpR op_eq (pv 1) (pe_gi (by rfl) T.i_BS_WHERE) (nomark _)) (pss_one (ps_ret (pe_call (ok_bs_where T) (hr.mono (by decide)) rfl T.g_bs_where T.F_bs_where.kp (b_bs_where T) .nil pass0 (pa_cons (pv 0) (pa_cons (pe_ix ix_list (pv 2) pe_int (fun _ _ => rfl)) pa_nil))))) pss_nil)
        (pss_cons (ps_if (pt_cmpR op_eq (pv 1) (pe_gi (by rfl) T.i_BS_LOOK) (nomark _)) (pss_one (ps_ret (pe_call (ok_bs_look T) (hr.mono (by decide)) rfl T.g_bs_look T.F_bs_look.kp (b_bs_look T) .nil pass0 (pa_cons (pv 0) (pa_cons (pe_ix ix_list (pv 2) pe_int (fun _ _ => rfl)) pa_nil))))) pss_nil)
        (pss_cons (ps_if (pt_cmpR op_eq (pv 1) (pe_gi (by rfl) T.i_BS_PLACE) (nomark _)) (pss_one (ps_ret (pe_call (ok_bs_place T) (hr.mono (by decide)) rfl T.g_bs_place T.F_bs_place.kp (b_bs_place T) .nil pass0 (pa_cons (pv 0) (pa_cons (pe_ix ix_list (pv 2) pe_int (fun _ _ => rfl)) pa_nil))))) pss_nil)
        (pss_cons (ps_if (pt_cmpR op_eq (pv 1) (pe_gi (by rfl) T.i_BS_FIRST) (nomark _)) (pss_one (ps_ret (pe_call (ok_bs_first T) (hr.mono (by decide)) rfl T.g_bs_first T.F_bs_first.kp (b_bs_first T) .nil pass0 (pa_cons (pv 0) pa_nil)))) pss_nil)
        (pss_cons (ps_if (pt_cmpR op_eq (pv 1) (pe_gi (by rfl) T.i_BS_FITS) (nomark _)) (pss_one (ps_ret (pe_call (ok_bs_fits T) (hr.mono (by decide)) rfl T.g_bs_fits T.F_bs_fits.kp (b_bs_fits T) .nil pass0 (pa_cons (pv 0) (pa_cons (pe_ix ix_list (pv 2) pe_int (fun _ _ => rfl)) pa_nil))))) pss_nil)
        (pss_cons (ps_if (pt_cmpR op_eq (pv 1) (pe_gi (by rfl) T.i_BS_ALL) (nomark _)) (pss_one (ps_ret (pe_call (ok_bs_all T) (hr.mono (by decide)) rfl T.g_bs_all T.F_bs_all.kp (b_bs_all T) .nil pass0 (pa_cons (pv 0) pa_nil)))) pss_nil)
        (pss_cons (ps_if (pt_cmpR op_eq (pv 1) (pe_gi (by rfl) T.i_BS_MAY) (nomark _)) (pss_one (ps_ret (pe_call (ok_bs_may T) (hr.mono (by decide)) rfl T.g_bs_may T.F_bs_may.kp (b_bs_may T) .nil pass0 (pa_cons (pv 0) pa_nil)))) pss_nil)
        (pss_one (ps_ret (pe_call (ok_bs_sums T) (hr.mono (by decide)) rfl T.g_bs_sums T.F_bs_sums.kp (b_bs_sums T) .nil pass0 (pa_cons (pv 0) pa_nil)))))))))))))))), ?_⟩
    cases c with
    | back_ =>
      refine ⟨_, rfl, rfl, _, rfl, iteD rfl ?_⟩
      exact ⟨_, rfl, a, rfl, q⟩
    | slack =>
      refine ⟨_, rfl, rfl, _, rfl, iteDn (nev (by show ¬ ((12 : Nat) : Int) = 11; decide)) ?_⟩
      refine ⟨_, rfl, rfl, _, rfl, iteD rfl ?_⟩
      exact ⟨_, rfl, a, rfl, q⟩
    | brought a' =>
      refine ⟨_, rfl, rfl, _, rfl, iteDn (nev (by show ¬ ((13 : Nat) : Int) = 11; decide)) ?_⟩
      refine ⟨_, rfl, rfl, _, rfl, iteDn (nev (by show ¬ ((13 : Nat) : Int) = 12; decide)) ?_⟩
      refine ⟨_, rfl, rfl, _, rfl, iteD rfl ?_⟩
      exact ⟨_, rfl, _, rfl, g, _, _, _, rfl, rfl, hg, at_of (j := 0) rfl rfl, a, a', rfl, q⟩
    | fewest a' =>
      refine ⟨_, rfl, rfl, _, rfl, iteDn (nev (by show ¬ ((14 : Nat) : Int) = 11; decide)) ?_⟩
      refine ⟨_, rfl, rfl, _, rfl, iteDn (nev (by show ¬ ((14 : Nat) : Int) = 12; decide)) ?_⟩
      refine ⟨_, rfl, rfl, _, rfl, iteDn (nev (by show ¬ ((14 : Nat) : Int) = 13; decide)) ?_⟩
      refine ⟨_, rfl, rfl, _, rfl, iteD rfl ?_⟩
      exact ⟨_, rfl, _, rfl, g, _, _, _, rfl, rfl, hg, at_of (j := 0) rfl rfl, a, a', rfl, q⟩
    | next =>
      refine ⟨_, rfl, rfl, _, rfl, iteDn (nev (by show ¬ ((15 : Nat) : Int) = 11; decide)) ?_⟩
      refine ⟨_, rfl, rfl, _, rfl, iteDn (nev (by show ¬ ((15 : Nat) : Int) = 12; decide)) ?_⟩
      refine ⟨_, rfl, rfl, _, rfl, iteDn (nev (by show ¬ ((15 : Nat) : Int) = 13; decide)) ?_⟩
      refine ⟨_, rfl, rfl, _, rfl, iteDn (nev (by show ¬ ((15 : Nat) : Int) = 14; decide)) ?_⟩
      refine ⟨_, rfl, rfl, _, rfl, iteD rfl ?_⟩
      exact ⟨_, rfl, a, rfl, q⟩
    | where_ a' =>
      refine ⟨_, rfl, rfl, _, rfl, iteDn (nev (by show ¬ ((16 : Nat) : Int) = 11; decide)) ?_⟩
      refine ⟨_, rfl, rfl, _, rfl, iteDn (nev (by show ¬ ((16 : Nat) : Int) = 12; decide)) ?_⟩
      refine ⟨_, rfl, rfl, _, rfl, iteDn (nev (by show ¬ ((16 : Nat) : Int) = 13; decide)) ?_⟩
      refine ⟨_, rfl, rfl, _, rfl, iteDn (nev (by show ¬ ((16 : Nat) : Int) = 14; decide)) ?_⟩
      refine ⟨_, rfl, rfl, _, rfl, iteDn (nev (by show ¬ ((16 : Nat) : Int) = 15; decide)) ?_⟩
      refine ⟨_, rfl, rfl, _, rfl, iteD rfl ?_⟩
      exact ⟨_, rfl, _, rfl, g, _, _, _, rfl, rfl, hg, at_of (j := 0) rfl rfl, a, a', rfl, q⟩
    | look a' =>
      refine ⟨_, rfl, rfl, _, rfl, iteDn (nev (by show ¬ ((17 : Nat) : Int) = 11; decide)) ?_⟩
      refine ⟨_, rfl, rfl, _, rfl, iteDn (nev (by show ¬ ((17 : Nat) : Int) = 12; decide)) ?_⟩
      refine ⟨_, rfl, rfl, _, rfl, iteDn (nev (by show ¬ ((17 : Nat) : Int) = 13; decide)) ?_⟩
      refine ⟨_, rfl, rfl, _, rfl, iteDn (nev (by show ¬ ((17 : Nat) : Int) = 14; decide)) ?_⟩
      refine ⟨_, rfl, rfl, _, rfl, iteDn (nev (by show ¬ ((17 : Nat) : Int) = 15; decide)) ?_⟩
      refine ⟨_, rfl, rfl, _, rfl, iteDn (nev (by show ¬ ((17 : Nat) : Int) = 16; decide)) ?_⟩
      refine ⟨_, rfl, rfl, _, rfl, iteD rfl ?_⟩
      exact ⟨_, rfl, _, rfl, g, _, _, _, rfl, rfl, hg, at_of (j := 0) rfl rfl, a, a', rfl, q⟩
    | place a' =>
      refine ⟨_, rfl, rfl, _, rfl, iteDn (nev (by show ¬ ((18 : Nat) : Int) = 11; decide)) ?_⟩
      refine ⟨_, rfl, rfl, _, rfl, iteDn (nev (by show ¬ ((18 : Nat) : Int) = 12; decide)) ?_⟩
      refine ⟨_, rfl, rfl, _, rfl, iteDn (nev (by show ¬ ((18 : Nat) : Int) = 13; decide)) ?_⟩
      refine ⟨_, rfl, rfl, _, rfl, iteDn (nev (by show ¬ ((18 : Nat) : Int) = 14; decide)) ?_⟩
      refine ⟨_, rfl, rfl, _, rfl, iteDn (nev (by show ¬ ((18 : Nat) : Int) = 15; decide)) ?_⟩
      refine ⟨_, rfl, rfl, _, rfl, iteDn (nev (by show ¬ ((18 : Nat) : Int) = 16; decide)) ?_⟩
      refine ⟨_, rfl, rfl, _, rfl, iteDn (nev (by show ¬ ((18 : Nat) : Int) = 17; decide)) ?_⟩
      refine ⟨_, rfl, rfl, _, rfl, iteD rfl ?_⟩
      exact ⟨_, rfl, _, rfl, g, _, _, _, rfl, rfl, hg, at_of (j := 0) rfl rfl, a, a', rfl, q⟩
    | first =>
      refine ⟨_, rfl, rfl, _, rfl, iteDn (nev (by show ¬ ((19 : Nat) : Int) = 11; decide)) ?_⟩
      refine ⟨_, rfl, rfl, _, rfl, iteDn (nev (by show ¬ ((19 : Nat) : Int) = 12; decide)) ?_⟩
      refine ⟨_, rfl, rfl, _, rfl, iteDn (nev (by show ¬ ((19 : Nat) : Int) = 13; decide)) ?_⟩
      refine ⟨_, rfl, rfl, _, rfl, iteDn (nev (by show ¬ ((19 : Nat) : Int) = 14; decide)) ?_⟩
      refine ⟨_, rfl, rfl, _, rfl, iteDn (nev (by show ¬ ((19 : Nat) : Int) = 15; decide)) ?_⟩
      refine ⟨_, rfl, rfl, _, rfl, iteDn (nev (by show ¬ ((19 : Nat) : Int) = 16; decide)) ?_⟩
      refine ⟨_, rfl, rfl, _, rfl, iteDn (nev (by show ¬ ((19 : Nat) : Int) = 17; decide)) ?_⟩
      refine ⟨_, rfl, rfl, _, rfl, iteDn (nev (by show ¬ ((19 : Nat) : Int) = 18; decide)) ?_⟩
      refine ⟨_, rfl, rfl, _, rfl, iteD rfl ?_⟩
      exact ⟨_, rfl, a, rfl, q⟩
    | fits a' =>
      refine ⟨_, rfl, rfl, _, rfl, iteDn (nev (by show ¬ ((20 : Nat) : Int) = 11; decide)) ?_⟩
      refine ⟨_, rfl, rfl, _, rfl, iteDn (nev (by show ¬ ((20 : Nat) : Int) = 12; decide)) ?_⟩
      refine ⟨_, rfl, rfl, _, rfl, iteDn (nev (by show ¬ ((20 : Nat) : Int) = 13; decide)) ?_⟩
      refine ⟨_, rfl, rfl, _, rfl, iteDn (nev (by show ¬ ((20 : Nat) : Int) = 14; decide)) ?_⟩
      refine ⟨_, rfl, rfl, _, rfl, iteDn (nev (by show ¬ ((20 : Nat) : Int) = 15; decide)) ?_⟩
      refine ⟨_, rfl, rfl, _, rfl, iteDn (nev (by show ¬ ((20 : Nat) : Int) = 16; decide)) ?_⟩
      refine ⟨_, rfl, rfl, _, rfl, iteDn (nev (by show ¬ ((20 : Nat) : Int) = 17; decide)) ?_⟩
      refine ⟨_, rfl, rfl, _, rfl, iteDn (nev (by show ¬ ((20 : Nat) : Int) = 18; decide)) ?_⟩
      refine ⟨_, rfl, rfl, _, rfl, iteDn (nev (by show ¬ ((20 : Nat) : Int) = 19; decide)) ?_⟩
      refine ⟨_, rfl, rfl, _, rfl, iteD rfl ?_⟩
      exact ⟨_, rfl, _, rfl, g, _, _, _, rfl, rfl, hg, at_of (j := 0) rfl rfl, a, a', rfl, q⟩
    | all =>
      refine ⟨_, rfl, rfl, _, rfl, iteDn (nev (by show ¬ ((21 : Nat) : Int) = 11; decide)) ?_⟩
      refine ⟨_, rfl, rfl, _, rfl, iteDn (nev (by show ¬ ((21 : Nat) : Int) = 12; decide)) ?_⟩
      refine ⟨_, rfl, rfl, _, rfl, iteDn (nev (by show ¬ ((21 : Nat) : Int) = 13; decide)) ?_⟩
      refine ⟨_, rfl, rfl, _, rfl, iteDn (nev (by show ¬ ((21 : Nat) : Int) = 14; decide)) ?_⟩
      refine ⟨_, rfl, rfl, _, rfl, iteDn (nev (by show ¬ ((21 : Nat) : Int) = 15; decide)) ?_⟩
      refine ⟨_, rfl, rfl, _, rfl, iteDn (nev (by show ¬ ((21 : Nat) : Int) = 16; decide)) ?_⟩
      refine ⟨_, rfl, rfl, _, rfl, iteDn (nev (by show ¬ ((21 : Nat) : Int) = 17; decide)) ?_⟩
      refine ⟨_, rfl, rfl, _, rfl, iteDn (nev (by show ¬ ((21 : Nat) : Int) = 18; decide)) ?_⟩
      refine ⟨_, rfl, rfl, _, rfl, iteDn (nev (by show ¬ ((21 : Nat) : Int) = 19; decide)) ?_⟩
      refine ⟨_, rfl, rfl, _, rfl, iteDn (nev (by show ¬ ((21 : Nat) : Int) = 20; decide)) ?_⟩
      refine ⟨_, rfl, rfl, _, rfl, iteD rfl ?_⟩
      exact ⟨_, rfl, a, rfl, q⟩
    | may =>
      refine ⟨_, rfl, rfl, _, rfl, iteDn (nev (by show ¬ ((22 : Nat) : Int) = 11; decide)) ?_⟩
      refine ⟨_, rfl, rfl, _, rfl, iteDn (nev (by show ¬ ((22 : Nat) : Int) = 12; decide)) ?_⟩
      refine ⟨_, rfl, rfl, _, rfl, iteDn (nev (by show ¬ ((22 : Nat) : Int) = 13; decide)) ?_⟩
      refine ⟨_, rfl, rfl, _, rfl, iteDn (nev (by show ¬ ((22 : Nat) : Int) = 14; decide)) ?_⟩
      refine ⟨_, rfl, rfl, _, rfl, iteDn (nev (by show ¬ ((22 : Nat) : Int) = 15; decide)) ?_⟩
      refine ⟨_, rfl, rfl, _, rfl, iteDn (nev (by show ¬ ((22 : Nat) : Int) = 16; decide)) ?_⟩
      refine ⟨_, rfl, rfl, _, rfl, iteDn (nev (by show ¬ ((22 : Nat) : Int) = 17; decide)) ?_⟩
      refine ⟨_, rfl, rfl, _, rfl, iteDn (nev (by show ¬ ((22 : Nat) : Int) = 18; decide)) ?_⟩
      refine ⟨_, rfl, rfl, _, rfl, iteDn (nev (by show ¬ ((22 : Nat) : Int) = 19; decide)) ?_⟩
      refine ⟨_, rfl, rfl, _, rfl, iteDn (nev (by show ¬ ((22 : Nat) : Int) = 20; decide)) ?_⟩
      refine ⟨_, rfl, rfl, _, rfl, iteDn (nev (by show ¬ ((22 : Nat) : Int) = 21; decide)) ?_⟩
      refine ⟨_, rfl, rfl, _, rfl, iteD rfl ?_⟩
      exact ⟨_, rfl, a, rfl, q⟩
    | sums =>
      refine ⟨_, rfl, rfl, _, rfl, iteDn (nev (by show ¬ ((23 : Nat) : Int) = 11; decide)) ?_⟩
      refine ⟨_, rfl, rfl, _, rfl, iteDn (nev (by show ¬ ((23 : Nat) : Int) = 12; decide)) ?_⟩
      refine ⟨_, rfl, rfl, _, rfl, iteDn (nev (by show ¬ ((23 : Nat) : Int) = 13; decide)) ?_⟩
      refine ⟨_, rfl, rfl, _, rfl, iteDn (nev (by show ¬ ((23 : Nat) : Int) = 14; decide)) ?_⟩
      refine ⟨_, rfl, rfl, _, rfl, iteDn (nev (by show ¬ ((23 : Nat) : Int) = 15; decide)) ?_⟩
      refine ⟨_, rfl, rfl, _, rfl, iteDn (nev (by show ¬ ((23 : Nat) : Int) = 16; decide)) ?_⟩
      refine ⟨_, rfl, rfl, _, rfl, iteDn (nev (by show ¬ ((23 : Nat) : Int) = 17; decide)) ?_⟩
      refine ⟨_, rfl, rfl, _, rfl, iteDn (nev (by show ¬ ((23 : Nat) : Int) = 18; decide)) ?_⟩
      refine ⟨_, rfl, rfl, _, rfl, iteDn (nev (by show ¬ ((23 : Nat) : Int) = 19; decide)) ?_⟩
      refine ⟨_, rfl, rfl, _, rfl, iteDn (nev (by show ¬ ((23 : Nat) : Int) = 20; decide)) ?_⟩
      refine ⟨_, rfl, rfl, _, rfl, iteDn (nev (by show ¬ ((23 : Nat) : Int) = 21; decide)) ?_⟩
      refine ⟨_, rfl, rfl, _, rfl, iteDn (nev (by show ¬ ((23 : Nat) : Int) = 22; decide)) ?_⟩
      exact ⟨_, rfl, a, rfl, q⟩
    | _ => cases hc
def sp_bs_state (K : PySem.W.Frag) (A : Ad) : Sp := fun vs H Q _ => ∃ (a ch dc bf ud : Addr) (s : Km439.Sea) (ok : Addr → Prop) (ps fs : List Addr), vs = [.ref a, .ref ch] ∧ StAt A ok H a s ∧ H ch = some (.ins A.c_Changes dc (cF bf ud)) ∧ H bf = some (.lst (ps.map V.ref)) ∧ H ud = some (.lst (fs.map V.ref)) ∧
  ∀ p, H p = none → Q (.ref p) (upd H p (.lst ([((s.time : Nat) : Int), (s.boats.length : Nat), (s.queue.length : Nat), (s.sail : Nat), (ps.length : Nat), (fs.length : Nat)].map V.int)))
theorem ok_bs_state (T : Txt K mg A) : FnOk P w K mg base CX0 1 A.f_bs_state A.d_bs_state P_bs_state (sp_bs_state K A) := by
  refine T.F_bs_state.ok sc_bs_state (fun vs H Q E h => ?_) (fun cdv Ar outer s0 H vs Q E hr h => ?_)
  · obtain ⟨a, ch, dc, bf, ud, s, ok, ps, fs, rfl, _⟩ := h
    rfl
  · obtain ⟨a, ch, dc, bf, ud, s, ok, ps, fs, rfl, ⟨dx, bl, ql, as, ts, X⟩, hc, hb, hu, k⟩ := h
    refine ⟨_, (pss_one (ps_ret (pe_lst (pa_cons (pe_fld (pv 0) rfl) (pa_cons (pe_callB call_len_seq (by rfl) T.z_len PySem.boot_len (pa_cons (pe_fld (pv 0) rfl) pa_nil)) (pa_cons (pe_callB call_len_seq (by rfl) T.z_len PySem.boot_len (pa_cons (pe_fld (pv 0) rfl) pa_nil)) (pa_cons (pe_fld (pv 0) rfl) (pa_cons (pe_callB call_len_seq (by rfl) T.z_len PySem.boot_len (pa_cons (pe_fld (pv 1) rfl) pa_nil)) (pa_cons (pe_callB call_len_seq (by rfl) T.z_len PySem.boot_len (pa_cons (pe_fld (pv 1) rfl) pa_nil)) pa_nil))))))))), ?_⟩
    refine ⟨_, rfl, a, _, dx, _, _, rfl, X.st, T.cl_State, T.n_State_minute, sF_minute s bl ql, _, rfl, a, _, dx, _, _, rfl, X.st, T.cl_State, T.n_State_boats, sF_boats s bl ql, bl, _, rfl, .inl (SqL.of X.bs), _, rfl, a, _, dx, _, _, rfl, X.st, T.cl_State, T.n_State_groups, sF_groups s bl ql, ql, _, rfl, .inl (SqL.of X.qs), _, rfl, a, _, dx, _, _, rfl, X.st, T.cl_State, T.n_State_sail, sF_sail s bl ql, ?_⟩
    refine ⟨_, rfl, ch, _, dc, _, _, rfl, hc, T.cl_Changes, T.n_Changes_before, cF_before bf ud, bf, _, rfl, .inl (SqL.of hb), _, rfl, ch, _, dc, _, _, rfl, hc, T.cl_Changes, T.n_Changes_undone, cF_undone bf ud, ud, _, rfl, .inl (SqL.of hu), (by show 6 ≤ sizeLine; decide), fun p hp => ?_⟩
    have r := k p hp
    rw [← X.bn, ← X.qn] at r
    rw [List.length_map, List.length_map, List.length_map, List.length_map]
    exact r
def sp_Changes_take_back (K : PySem.W.Frag) (A : Ad) : Sp := fun vs H Q _ => ∃ (ch dc bf ud st x : Addr) (ps fs : List Addr), vs = [.ref ch, .ref st] ∧ H ch = some (.ins A.c_Changes dc (cF bf ud)) ∧ H bf = some (.lst ((ps ++ [x]).map V.ref)) ∧ H ud = some (.lst (fs.map V.ref)) ∧ bf ≠ ud ∧ fs.length ≤ 30 ∧
  ∀ (H' : Hp), H' bf = some (.lst (ps.map V.ref)) → H' ud = some (.lst ((fs ++ [st]).map V.ref)) → (∀ b o, H b = some o → b ≠ bf → b ≠ ud → H' b = some o) → Q (.ref x) H'
theorem ok_Changes_take_back (T : Txt K mg A) : FnOk P w K mg base CX0 1 A.f_Changes_take_back A.d_Changes_take_back P_Changes_take_back (sp_Changes_take_back K A) := by
  refine T.F_Changes_take_back.ok sc_Changes_take_back (fun vs H Q E h => ?_) (fun cdv Ar outer s0 H vs Q E hr h => ?_)
  · obtain ⟨ch, dc, bf, ud, st, x, ps, fs, rfl, _⟩ := h
    rfl
  · obtain ⟨ch, dc, bf, ud, st, x, ps, fs, rfl, hc, ha, hb, nbu, hn, k⟩ := h
    have nab : bf ≠ ud := nbu
    have ncb : ch ≠ ud := ne_of hc hb (by intro q; cases q)
    refine ⟨_, (pss_cons (ps_expr (pe_bm PySem.F.plainAttrs_list PySem.F.slot_list_append PySem.F.type_list_append mt_append (pe_fld (pv 0) rfl) (pa_cons (pv 1) pa_nil)))
        (pss_one (ps_ret (pe_bm0 PySem.F.plainAttrs_list PySem.F.slot_list_pop PySem.F.type_list_pop mt_pop (pe_fld (pv 0) rfl))))), ?_⟩
    refine ⟨_, rfl, ch, _, dc, _, _, rfl, hc, T.cl_Changes, T.n_Changes_undone, cF_undone bf ud, .inl ⟨rfl, _, SqL.of hb⟩, _, rfl, ud, _, _, rfl, rfl, hb, (by rw [List.length_map]; exact Nat.lt_of_le_of_lt hn (by decide)), ?_⟩
    have em : fs.map V.ref ++ [V.ref st] = (fs ++ [st]).map V.ref := by rw [List.map_append]; rfl
    rw [em]
    have hc1 : (upd H ud (.lst ((fs ++ [st]).map V.ref))) ch = some (.ins A.c_Changes dc (cF bf ud)) := by rw [upd_ne ncb]; exact hc
    have ha1 : (upd H ud (.lst ((fs ++ [st]).map V.ref))) bf = some (.lst ((ps ++ [x]).map V.ref)) := by rw [upd_ne nab]; exact ha
    have hy : ((ps ++ [x]).map V.ref)[((ps ++ [x]).map V.ref).length - 1]? = some (V.ref x) := by
      rw [List.length_map, List.length_append, List.length_singleton, Nat.add_sub_cancel, List.getElem?_map, List.getElem?_append_right (Nat.le_refl _), Nat.sub_self]
      rfl
    refine ⟨_, rfl, ch, _, dc, _, _, rfl, hc1, T.cl_Changes, T.n_Changes_before, cF_before bf ud, .inl ⟨rfl, _, SqL.of ha1⟩, bf, _, _, rfl, rfl, ha1, hy, ?_⟩
    refine k _ ?_ ?_ fun b o e n1 n2 => ?_
    · rw [upd_same, List.map_append, List.map_cons, List.map_nil, List.dropLast_concat]
    · rw [upd_ne nab.symm, upd_same]
    · rw [upd_ne n1, upd_ne n2]
      exact e
def sp_Changes_do_again (K : PySem.W.Frag) (A : Ad) : Sp := fun vs H Q _ => ∃ (ch dc bf ud st x : Addr) (ps fs : List Addr), vs = [.ref ch, .ref st] ∧ H ch = some (.ins A.c_Changes dc (cF bf ud)) ∧ H ud = some (.lst ((ps ++ [x]).map V.ref)) ∧ H bf = some (.lst (fs.map V.ref)) ∧ bf ≠ ud ∧ fs.length ≤ 30 ∧
  ∀ (H' : Hp), H' ud = some (.lst (ps.map V.ref)) → H' bf = some (.lst ((fs ++ [st]).map V.ref)) → (∀ b o, H b = some o → b ≠ bf → b ≠ ud → H' b = some o) → Q (.ref x) H'
theorem ok_Changes_do_again (T : Txt K mg A) : FnOk P w K mg base CX0 1 A.f_Changes_do_again A.d_Changes_do_again P_Changes_do_again (sp_Changes_do_again K A) := by
  refine T.F_Changes_do_again.ok sc_Changes_do_again (fun vs H Q E h => ?_) (fun cdv Ar outer s0 H vs Q E hr h => ?_)
  · obtain ⟨ch, dc, bf, ud, st, x, ps, fs, rfl, _⟩ := h
    rfl
  · obtain ⟨ch, dc, bf, ud, st, x, ps, fs, rfl, hc, ha, hb, nbu, hn, k⟩ := h
    have nab : ud ≠ bf := nbu.symm
    have ncb : ch ≠ bf := ne_of hc hb (by intro q; cases q)
    refine ⟨_, (pss_cons (ps_expr (pe_bm PySem.F.plainAttrs_list PySem.F.slot_list_append PySem.F.type_list_append mt_append (pe_fld (pv 0) rfl) (pa_cons (pv 1) pa_nil)))
        (pss_one (ps_ret (pe_bm0 PySem.F.plainAttrs_list PySem.F.slot_list_pop PySem.F.type_list_pop mt_pop (pe_fld (pv 0) rfl))))), ?_⟩
    refine ⟨_, rfl, ch, _, dc, _, _, rfl, hc, T.cl_Changes, T.n_Changes_before, cF_before bf ud, .inl ⟨rfl, _, SqL.of hb⟩, _, rfl, bf, _, _, rfl, rfl, hb, (by rw [List.length_map]; exact Nat.lt_of_le_of_lt hn (by decide)), ?_⟩
    have em : fs.map V.ref ++ [V.ref st] = (fs ++ [st]).map V.ref := by rw [List.map_append]; rfl
    rw [em]
    have hc1 : (upd H bf (.lst ((fs ++ [st]).map V.ref))) ch = some (.ins A.c_Changes dc (cF bf ud)) := by rw [upd_ne ncb]; exact hc
    have ha1 : (upd H bf (.lst ((fs ++ [st]).map V.ref))) ud = some (.lst ((ps ++ [x]).map V.ref)) := by rw [upd_ne nab]; exact ha
    have hy : ((ps ++ [x]).map V.ref)[((ps ++ [x]).map V.ref).length - 1]? = some (V.ref x) := by
      rw [List.length_map, List.length_append, List.length_singleton, Nat.add_sub_cancel, List.getElem?_map, List.getElem?_append_right (Nat.le_refl _), Nat.sub_self]
      rfl
    refine ⟨_, rfl, ch, _, dc, _, _, rfl, hc1, T.cl_Changes, T.n_Changes_undone, cF_undone bf ud, .inl ⟨rfl, _, SqL.of ha1⟩, ud, _, _, rfl, rfl, ha1, hy, ?_⟩
    refine k _ ?_ ?_ fun b o e n1 n2 => ?_
    · rw [upd_same, List.map_append, List.map_cons, List.map_nil, List.dropLast_concat]
    · rw [upd_ne nab.symm, upd_same]
    · rw [upd_ne n2, upd_ne n1]
      exact e
def sp_Ship_take_back (K : PySem.W.Frag) (A : Ad) : Sp := fun vs H Q _ => ∃ (sh : Addr), vs = [.ref sh] ∧ Run A H sh .back Q
theorem ok_Ship_take_back (T : Txt K mg A) : FnOk P w K mg base CX0 2 A.f_Ship_take_back A.d_Ship_take_back P_Ship_take_back (sp_Ship_take_back K A) := by
  refine T.F_Ship_take_back.ok sc_Ship_take_back (fun vs H Q E h => ?_) (fun cdv Ar outer s0 H vs Q E hr h => ?_)
  · obtain ⟨sh, rfl, _⟩ := h
    rfl
  · obtain ⟨sh, rfl, H0, SS, S, Z, hns, q⟩ := h
    cases SS with
    | none => exact absurd (hns rfl) (by decide)
    | some D =>
      obtain ⟨d, st, ch, dc, bf, ud, ps, fs, X, Y, P1, P2, W⟩ := id Z
      have l1 := pair_len P1
      have l2 := pair_len P2
      rw [List.length_reverse] at l1 l2
      have wn := W.n
      refine ⟨_, (pss_cons (ps_if (pt_cmpR op_eq (pe_callB call_len_seq (by rfl) T.z_len PySem.boot_len (pa_cons (pe_fld (pe_fld (pv 0) rfl) rfl) pa_nil)) pe_int (nomark _)) (pss_one (ps_ret (pe_lst (pa_cons (pe_gi (by rfl) T.i_NONE_THERE) pa_nil)))) pss_nil)
        (pss_cons (ps_fld (pv 0) (pe_meth (pe_fld (pv 0) rfl) T.cl_Changes T.m_Changes_take_back (ok_Changes_take_back T) (hr.mono (by decide)) (b_Changes_take_back T) .nil pass0 (pa_cons (pe_fld (pv 0) rfl) pa_nil)) rfl)
        (pss_one (ps_ret (pe_lst (pa_cons (pe_callB call_len_seq (by rfl) T.z_len PySem.boot_len (pa_cons (pe_fld (pe_fld (pv 0) rfl) rfl) pa_nil)) pa_nil)))))), ?_⟩
      refine ⟨_, rfl, sh, _, d, _, _, rfl, X.hsh, T.cl_Ship, T.n_Ship_changes, hF_changes _ _, ch, _, dc, _, _, rfl, X.hch, T.cl_Changes, T.n_Changes_before, cF_before bf ud, bf, _, rfl, .inl (SqL.of X.hbf), rfl, _, rfl, ?_⟩
      cases e : D.past with
      | nil =>
        have es : stp (some D) .back = (some D, [-2]) := by
          unfold stp
          simp only [Km439.act, e]
          rfl
        rw [es] at q
        rw [e] at l1
        refine iteD (by rw [List.length_map, l1]; rfl) ⟨(by show 1 ≤ sizeLine; decide), fun p hp => ?_⟩
        exact q _ p (S.trans (Same.new hp _)) (Z.same (Same.new hp _)) upd_same (S.free hp)
      | cons s r =>
        have es : stp (some D) .back = (some ⟨s, r, D.now :: D.future⟩, [((r.length : Nat) : Int)]) := by
          unfold stp
          simp only [Km439.act, e]
          rfl
        rw [es] at q
        rw [e, List.length_cons] at l1
        rw [e, List.reverse_cons] at P1
        rw [e, List.length_cons] at wn
        obtain ⟨ps', x, rfl, P3, Yx⟩ := pair_snoc P1
        refine iteDn (by intro z; have z := V.int.inj z; rw [List.length_map] at z; omega) ?_
        refine ⟨_, rfl, sh, _, d, _, _, rfl, X.hsh, T.cl_Ship, T.n_Ship_changes, hF_changes _ _, ch, dc, _, rfl, X.hch, cF_no_take_back bf ud, _, rfl, sh, _, d, _, _, rfl, X.hsh, T.cl_Ship, T.n_Ship_state, hF_state _ _, ch, dc, bf, ud, st, x, ps', fs, rfl, X.hch, X.hbf, X.hud, X.nbu, (by omega), fun H1 e1 e2 k1 => ?_⟩
        have nsb : sh ≠ bf := ne_of X.hsh X.hbf (by intro z; cases z)
        have nsu : sh ≠ ud := ne_of X.hsh X.hud (by intro z; cases z)
        have ncb : ch ≠ bf := ne_of X.hch X.hbf (by intro z; cases z)
        have ncu : ch ≠ ud := ne_of X.hch X.hud (by intro z; cases z)
        have s1 := k1 _ _ X.hsh nsb nsu
        refine ⟨_, rfl, sh, _, d, _, rfl, s1, T.cl_Ship, T.n_Ship_state, (by show 2 < 1000; decide), ?_⟩
        have p1 : putF "state" (.ref x) (hF (.ref st) ch) = hF (.ref x) ch := by rw [hF_put_state]; rfl
        rw [p1]
        have S2 : Same H0 (upd H1 sh (.ins A.c_Ship d (hF (.ref x) ch))) := Same.put (fun b o e => k1 b o (S _ _ e) (ne_of_none e X.f3) (ne_of_none e X.f4)) X.f1 _
        have X2 : ShX A H0 (upd H1 sh (.ins A.c_Ship d (hF (.ref x) ch))) sh d (.ref x) ch dc bf ud ps' (fs ++ [st]) := by
          refine ⟨upd_same, ?_, ?_, ?_, X.nbu, X.nsc, X.f1, X.f2, X.f3, X.f4⟩
          · rw [upd_ne X.nsc.symm]; exact k1 _ _ X.hch ncb ncu
          · rw [upd_ne nsb.symm]; exact e1
          · rw [upd_ne nsu.symm]; exact e2
        have up : ∀ {z : Addr} {s : Km439.Sea}, StAt A (okS H0 sh ch bf ud) H z s → StAt A (okS H0 sh ch bf ud) (upd H1 sh (.ins A.c_Ship d (hF (.ref x) ch))) z s := fun {z s} V => by
          have V2 := V.frame (H' := H1) (Pr := fun z => z ≠ bf ∧ z ≠ ud) (fun b o e n => k1 b o e n.1 n.2) (fun z hz => ⟨hz.2.2.2.1, hz.2.2.2.2⟩) (fun t xs e => ⟨ne_of e X.hbf (by intro z; cases z), ne_of e X.hud (by intro z; cases z)⟩)
          exact V2.out (fun z => z.2.1 rfl) s1 (by intro xs z; cases z)
        refine ⟨_, rfl, sh, _, d, _, _, rfl, X2.hsh, T.cl_Ship, T.n_Ship_changes, hF_changes _ _, ch, _, dc, _, _, rfl, X2.hch, T.cl_Changes, T.n_Changes_before, cF_before bf ud, bf, _, rfl, .inl (SqL.of X2.hbf), (by show 1 ≤ sizeLine; decide), fun p hp => ?_⟩
        have l3 := pair_len P3
        rw [List.length_reverse] at l3
        rw [List.length_map, l3]
        refine q _ p (S2.trans (Same.new hp _)) (ShipAt.same (S := some ⟨s, r, D.now :: D.future⟩) ⟨d, x, ch, dc, bf, ud, ps', (fs ++ [st]), X2, up Yx, ?_, ?_, ?_⟩ (Same.new hp _)) upd_same (S2.free hp)
        · exact pair_imp (fun _ _ z => up z) P3
        · show Paired _ (fs ++ [st]) (D.now :: D.future).reverse
          rw [List.reverse_cons]
          exact pair_app (pair_imp (fun _ _ z => up z) P2) (.cons (up Y) .nil)
        · exact ⟨W.past s (by rw [e]; exact List.mem_cons_self ..), fun z hz => W.past z (by rw [e]; exact List.mem_cons_of_mem _ hz), fun z hz => (List.mem_cons.mp hz).elim (fun w => w ▸ W.now) (fun w => W.fut z w), (by show r.length + (D.now :: D.future).length ≤ 30; rw [List.length_cons]; omega)⟩
def sp_Ship_do_again (K : PySem.W.Frag) (A : Ad) : Sp := fun vs H Q _ => ∃ (sh : Addr), vs = [.ref sh] ∧ Run A H sh .again Q
theorem ok_Ship_do_again (T : Txt K mg A) : FnOk P w K mg base CX0 2 A.f_Ship_do_again A.d_Ship_do_again P_Ship_do_again (sp_Ship_do_again K A) := by
  refine T.F_Ship_do_again.ok sc_Ship_do_again (fun vs H Q E h => ?_) (fun cdv Ar outer s0 H vs Q E hr h => ?_)
  · obtain ⟨sh, rfl, _⟩ := h
    rfl
  · obtain ⟨sh, rfl, H0, SS, S, Z, hns, q⟩ := h
    cases SS with
    | none => exact absurd (hns rfl) (by decide)
    | some D =>
      obtain ⟨d, st, ch, dc, bf, ud, ps, fs, X, Y, P1, P2, W⟩ := id Z
      have l1 := pair_len P1
      have l2 := pair_len P2
      rw [List.length_reverse] at l1 l2
      have wn := W.n
      refine ⟨_, (pss_cons (ps_if (pt_cmpR op_eq (pe_callB call_len_seq (by rfl) T.z_len PySem.boot_len (pa_cons (pe_fld (pe_fld (pv 0) rfl) rfl) pa_nil)) pe_int (nomark _)) (pss_one (ps_ret (pe_lst (pa_cons (pe_gi (by rfl) T.i_NONE_THERE) pa_nil)))) pss_nil)
        (pss_cons (ps_fld (pv 0) (pe_meth (pe_fld (pv 0) rfl) T.cl_Changes T.m_Changes_do_again (ok_Changes_do_again T) (hr.mono (by decide)) (b_Changes_do_again T) .nil pass0 (pa_cons (pe_fld (pv 0) rfl) pa_nil)) rfl)
        (pss_one (ps_ret (pe_lst (pa_cons (pe_callB call_len_seq (by rfl) T.z_len PySem.boot_len (pa_cons (pe_fld (pe_fld (pv 0) rfl) rfl) pa_nil)) pa_nil)))))), ?_⟩
      refine ⟨_, rfl, sh, _, d, _, _, rfl, X.hsh, T.cl_Ship, T.n_Ship_changes, hF_changes _ _, ch, _, dc, _, _, rfl, X.hch, T.cl_Changes, T.n_Changes_undone, cF_undone bf ud, ud, _, rfl, .inl (SqL.of X.hud), rfl, _, rfl, ?_⟩
      cases e : D.future with
      | nil =>
        have es : stp (some D) .again = (some D, [-2]) := by
          unfold stp
          simp only [Km439.act, e]
          rfl
        rw [es] at q
        rw [e] at l2
        refine iteD (by rw [List.length_map, l2]; rfl) ⟨(by show 1 ≤ sizeLine; decide), fun p hp => ?_⟩
        exact q _ p (S.trans (Same.new hp _)) (Z.same (Same.new hp _)) upd_same (S.free hp)
      | cons s r =>
        have es : stp (some D) .again = (some ⟨s, (D.now :: D.past).take Km439.PAST, r⟩, [((r.length : Nat) : Int)]) := by
          unfold stp
          simp only [Km439.act, e]
          rfl
        rw [es] at q
        rw [e, List.length_cons] at l2
        rw [e, List.reverse_cons] at P2
        rw [e, List.length_cons] at wn
        obtain ⟨fs', x, rfl, P3, Yx⟩ := pair_snoc P2
        refine iteDn (by intro z; have z := V.int.inj z; rw [List.length_map] at z; omega) ?_
        refine ⟨_, rfl, sh, _, d, _, _, rfl, X.hsh, T.cl_Ship, T.n_Ship_changes, hF_changes _ _, ch, dc, _, rfl, X.hch, cF_no_do_again bf ud, _, rfl, sh, _, d, _, _, rfl, X.hsh, T.cl_Ship, T.n_Ship_state, hF_state _ _, ch, dc, bf, ud, st, x, fs', ps, rfl, X.hch, X.hud, X.hbf, X.nbu, (by omega), fun H1 e1 e2 k1 => ?_⟩
        have nsb : sh ≠ bf := ne_of X.hsh X.hbf (by intro z; cases z)
        have nsu : sh ≠ ud := ne_of X.hsh X.hud (by intro z; cases z)
        have ncb : ch ≠ bf := ne_of X.hch X.hbf (by intro z; cases z)
        have ncu : ch ≠ ud := ne_of X.hch X.hud (by intro z; cases z)
        have s1 := k1 _ _ X.hsh nsb nsu
        refine ⟨_, rfl, sh, _, d, _, rfl, s1, T.cl_Ship, T.n_Ship_state, (by show 2 < 1000; decide), ?_⟩
        have p1 : putF "state" (.ref x) (hF (.ref st) ch) = hF (.ref x) ch := by rw [hF_put_state]; rfl
        rw [p1]
        have S2 : Same H0 (upd H1 sh (.ins A.c_Ship d (hF (.ref x) ch))) := Same.put (fun b o e => k1 b o (S _ _ e) (ne_of_none e X.f3) (ne_of_none e X.f4)) X.f1 _
        have X2 : ShX A H0 (upd H1 sh (.ins A.c_Ship d (hF (.ref x) ch))) sh d (.ref x) ch dc bf ud (ps ++ [st]) fs' := by
          refine ⟨upd_same, ?_, ?_, ?_, X.nbu, X.nsc, X.f1, X.f2, X.f3, X.f4⟩
          · rw [upd_ne X.nsc.symm]; exact k1 _ _ X.hch ncb ncu
          · rw [upd_ne nsb.symm]; exact e2
          · rw [upd_ne nsu.symm]; exact e1
        have up : ∀ {z : Addr} {s : Km439.Sea}, StAt A (okS H0 sh ch bf ud) H z s → StAt A (okS H0 sh ch bf ud) (upd H1 sh (.ins A.c_Ship d (hF (.ref x) ch))) z s := fun {z s} V => by
          have V2 := V.frame (H' := H1) (Pr := fun z => z ≠ bf ∧ z ≠ ud) (fun b o e n => k1 b o e n.1 n.2) (fun z hz => ⟨hz.2.2.2.1, hz.2.2.2.2⟩) (fun t xs e => ⟨ne_of e X.hbf (by intro z; cases z), ne_of e X.hud (by intro z; cases z)⟩)
          exact V2.out (fun z => z.2.1 rfl) s1 (by intro xs z; cases z)
        refine ⟨_, rfl, sh, _, d, _, _, rfl, X2.hsh, T.cl_Ship, T.n_Ship_changes, hF_changes _ _, ch, _, dc, _, _, rfl, X2.hch, T.cl_Changes, T.n_Changes_undone, cF_undone bf ud, ud, _, rfl, .inl (SqL.of X2.hud), (by show 1 ≤ sizeLine; decide), fun p hp => ?_⟩
        have l3 := pair_len P3
        rw [List.length_reverse] at l3
        rw [List.length_map, l3]
        refine q _ p (S2.trans (Same.new hp _)) (ShipAt.same (S := some ⟨s, (D.now :: D.past).take Km439.PAST, r⟩) ⟨d, x, ch, dc, bf, ud, (ps ++ [st]), fs', X2, up Yx, ?_, ?_, ?_⟩ (Same.new hp _)) upd_same (S2.free hp)
        · show Paired _ (ps ++ [st]) ((D.now :: D.past).take Km439.PAST).reverse
          rw [List.take_of_length_le (by rw [List.length_cons]; unfold Km439.PAST; omega), List.reverse_cons]
          exact pair_app (pair_imp (fun _ _ z => up z) P1) (.cons (up Y) .nil)
        · exact pair_imp (fun _ _ z => up z) P3
        · refine ⟨W.fut s (by rw [e]; exact List.mem_cons_self ..), fun z hz => (List.mem_cons.mp (List.mem_of_mem_take hz)).elim (fun w => w ▸ W.now) (fun w => W.past z w), fun z hz => W.fut z (by rw [e]; exact List.mem_cons_of_mem _ hz), ?_⟩
          show ((D.now :: D.past).take Km439.PAST).length + r.length ≤ 30
          rw [List.length_take, List.length_cons]
          omega
end
end Bts

end
section
set_option Elab.async false
set_option linter.all false
set_option maxRecDepth 100000
set_option maxHeartbeats 4000000
namespace Bts
open PySem PySem.Spec PyProof.Rows L2
section
variable {P : Program} {w : World} {K : PySem.W.Frag} {mg : Str → Option Value} {base : Heap} {A : Ad}
/-! ### a list of calls -/
theorem nat_cast {z : Int} (h : Km439Neutral.natural z 32 = true) : z = ((z.toNat : Nat) : Int) := by
  unfold Km439Neutral.natural at h
  rw [Bool.and_eq_true, decide_eq_true_eq] at h
  omega
theorem lc1 {k b0 : Int} (h : Km439Neutral.natural b0 32 = true) : [k, b0] = k :: ([b0.toNat].map fun n => ((n : Nat) : Int)) := by
  rw [List.map_cons, List.map_nil, ← nat_cast h]
theorem lc2 {k b0 b1 : Int} (h : (Km439Neutral.natural b0 32 && Km439Neutral.natural b1 32) = true) : [k, b0, b1] = k :: ([b0.toNat, b1.toNat].map fun n => ((n : Nat) : Int)) := by
  rw [Bool.and_eq_true] at h
  rw [List.map_cons, List.map_cons, List.map_nil, ← nat_cast h.1, ← nat_cast h.2]
theorem lc3 {k b0 b1 b2 : Int} (h : (Km439Neutral.natural b0 32 && Km439Neutral.natural b1 32 && Km439Neutral.natural b2 32) = true) : [k, b0, b1, b2] = k :: ([b0.toNat, b1.toNat, b2.toNat].map fun n => ((n : Nat) : Int)) := by
  rw [Bool.and_eq_true, Bool.and_eq_true] at h
  rw [List.map_cons, List.map_cons, List.map_cons, List.map_nil, ← nat_cast h.1.1, ← nat_cast h.1.2, ← nat_cast h.2]
theorem len1 : ∀ {l : List Int}, l.length = 1 → ∃ a, l = [a]
  | [a], _ => ⟨a, rfl⟩
theorem len2 : ∀ {l : List Int}, l.length = 2 → ∃ a b, l = [a, b]
  | [a, b], _ => ⟨a, b, rfl⟩
theorem len3 : ∀ {l : List Int}, l.length = 3 → ∃ a b c, l = [a, b, c]
  | [a, b, c], _ => ⟨a, b, c, rfl⟩
theorem ifk {c : Prop} [Decidable c] {a n : Nat} {X : Option (Nat × Nat)} {R : Prop} (h : (if c then some (a, 0) else X) = some (n, 0)) (h1 : c → n = a → R) (hx : X = some (n, 0) → R) : R := by
  by_cases hc : c
  · rw [if_pos hc] at h
    exact h1 hc (congrArg Prod.fst (Option.some.inj h)).symm
  · rw [if_neg hc] at h; exact hx h
/-- a call by its place, with as many numbers as that has -/
theorem call_shape {p : Int} {l : List Int} {n : Nat} (h : PyKm439.shape p = some (n, 0)) (hl : l.length = n) : PyKm439.whole [p :: l] = [p :: l] ∧
    (Km439Neutral.asked1 [p :: l] = true → ∃ c, Km439Neutral.callOf [p :: l] = some c ∧ p :: l = (((code c).1 : Nat) : Int) :: (code c).2.map fun n => ((n : Nat) : Int)) := by
  unfold PyKm439.shape at h
  refine ifk h (fun e en => by subst e; rw [en] at hl; obtain ⟨a, b, rfl⟩ := len2 hl; exact ⟨rfl, fun z => ⟨_, rfl, lc2 z⟩⟩) fun h => ?_
  refine ifk h (fun e en => by subst e; rw [en] at hl; obtain ⟨a, b, c, rfl⟩ := len3 hl; exact ⟨rfl, fun z => ⟨_, rfl, lc3 z⟩⟩) fun h => ?_
  refine ifk h (fun e en => by subst e; rw [en] at hl; obtain ⟨a, b, rfl⟩ := len2 hl; exact ⟨rfl, fun z => ⟨_, rfl, lc2 z⟩⟩) fun h => ?_
  refine ifk h (fun e en => by subst e; rw [en] at hl; obtain ⟨a, b, rfl⟩ := len2 hl; exact ⟨rfl, fun z => ⟨_, rfl, lc2 z⟩⟩) fun h => ?_
  refine ifk h (fun e en => by subst e; rw [en] at hl; obtain ⟨a, rfl⟩ := len1 hl; exact ⟨rfl, fun z => ⟨_, rfl, lc1 z⟩⟩) fun h => ?_
  refine ifk h (fun e en => by subst e; rw [en] at hl; obtain ⟨a, rfl⟩ := len1 hl; exact ⟨rfl, fun z => ⟨_, rfl, lc1 z⟩⟩) fun h => ?_
  refine ifk h (fun e en => by subst e; rw [en] at hl; obtain ⟨a, rfl⟩ := len1 hl; exact ⟨rfl, fun z => ⟨_, rfl, lc1 z⟩⟩) fun h => ?_
  refine ifk h (fun e en => by subst e; rw [en] at hl; obtain ⟨a, rfl⟩ := len1 hl; exact ⟨rfl, fun z => ⟨_, rfl, lc1 z⟩⟩) fun h => ?_
  refine ifk h (fun e en => by subst e; rw [en] at hl; obtain ⟨a, rfl⟩ := len1 hl; exact ⟨rfl, fun z => ⟨_, rfl, lc1 z⟩⟩) fun h => ?_
  refine ifk h (fun e en => by subst e; rw [en] at hl; obtain ⟨a, rfl⟩ := len1 hl; exact ⟨rfl, fun z => ⟨_, rfl, lc1 z⟩⟩) fun h => ?_
  refine ifk h (fun e en => by subst e; rw [en] at hl; obtain ⟨a, rfl⟩ := len1 hl; exact ⟨rfl, fun z => ⟨_, rfl, lc1 z⟩⟩) fun h => ?_
  refine ifk h (fun e en => by subst e; rw [en] at hl; have z := List.length_eq_zero_iff.mp hl; subst z; exact ⟨rfl, fun _ => ⟨_, rfl, rfl⟩⟩) fun h => ?_
  refine ifk h (fun e en => by subst e; rw [en] at hl; have z := List.length_eq_zero_iff.mp hl; subst z; exact ⟨rfl, fun _ => ⟨_, rfl, rfl⟩⟩) fun h => ?_
  refine ifk h (fun e en => by subst e; rw [en] at hl; obtain ⟨a, rfl⟩ := len1 hl; exact ⟨rfl, fun z => ⟨_, rfl, lc1 z⟩⟩) fun h => ?_
  refine ifk h (fun e en => by subst e; rw [en] at hl; obtain ⟨a, rfl⟩ := len1 hl; exact ⟨rfl, fun z => ⟨_, rfl, lc1 z⟩⟩) fun h => ?_
  refine ifk h (fun e en => by subst e; rw [en] at hl; have z := List.length_eq_zero_iff.mp hl; subst z; exact ⟨rfl, fun _ => ⟨_, rfl, rfl⟩⟩) fun h => ?_
  refine ifk h (fun e en => by subst e; rw [en] at hl; obtain ⟨a, rfl⟩ := len1 hl; exact ⟨rfl, fun z => ⟨_, rfl, lc1 z⟩⟩) fun h => ?_
  refine ifk h (fun e en => by subst e; rw [en] at hl; obtain ⟨a, rfl⟩ := len1 hl; exact ⟨rfl, fun z => ⟨_, rfl, lc1 z⟩⟩) fun h => ?_
  refine ifk h (fun e en => by subst e; rw [en] at hl; obtain ⟨a, rfl⟩ := len1 hl; exact ⟨rfl, fun z => ⟨_, rfl, lc1 z⟩⟩) fun h => ?_
  refine ifk h (fun e en => by subst e; rw [en] at hl; have z := List.length_eq_zero_iff.mp hl; subst z; exact ⟨rfl, fun _ => ⟨_, rfl, rfl⟩⟩) fun h => ?_
  refine ifk h (fun e en => by subst e; rw [en] at hl; obtain ⟨a, rfl⟩ := len1 hl; exact ⟨rfl, fun z => ⟨_, rfl, lc1 z⟩⟩) fun h => ?_
  refine ifk h (fun e en => by subst e; rw [en] at hl; have z := List.length_eq_zero_iff.mp hl; subst z; exact ⟨rfl, fun _ => ⟨_, rfl, rfl⟩⟩) fun h => ?_
  refine ifk h (fun e en => by subst e; rw [en] at hl; have z := List.length_eq_zero_iff.mp hl; subst z; exact ⟨rfl, fun _ => ⟨_, rfl, rfl⟩⟩) fun h => ?_
  refine ifk h (fun e en => by subst e; rw [en] at hl; have z := List.length_eq_zero_iff.mp hl; subst z; exact ⟨rfl, fun _ => ⟨_, rfl, rfl⟩⟩) fun h => ?_
  refine ifk h (fun e en => by subst e; rw [en] at hl; have z := List.length_eq_zero_iff.mp hl; subst z; exact ⟨rfl, fun _ => ⟨_, rfl, rfl⟩⟩) fun h => ?_
  refine ifk h (fun e en => by subst e; rw [en] at hl; have z := List.length_eq_zero_iff.mp hl; subst z; exact ⟨rfl, fun _ => ⟨_, rfl, rfl⟩⟩) fun h => ?_
  refine ifk h (fun e en => by subst e; rw [en] at hl; have z := List.length_eq_zero_iff.mp hl; subst z; exact ⟨rfl, fun _ => ⟨_, rfl, rfl⟩⟩) fun h => ?_
  cases h
theorem calls_whole : ∀ (f : Nat) (l : List Int) (cs : List (List (List Int))), PyFlat.calls PyKm439.shape f l = some cs → cs.map PyKm439.whole = cs
  | _, [], cs, h => by rw [calls_nil h]; rfl
  | 0, p :: r, cs, h => by unfold PyFlat.calls at h; cases h
  | f + 1, p :: r, cs, h => by
    obtain ⟨n, cs', h1, h2, h3, h4⟩ := calls_cons1 h
    subst h3
    rw [List.map_cons, calls_whole f _ _ h4, (call_shape h1 (by rw [List.length_take]; omega)).1]
theorem step_stp {S : Option Km439.Desk} {l : List Int} {c : Km439.Call} (h : Km439Neutral.callOf [l] = some c) : Km439Neutral.step S [l] = stp S c := by
  unfold Km439Neutral.step stp
  simp only [h]
  cases S with
  | some D => rfl
  | none => rfl
theorem code_shape (c : Km439.Call) : PyKm439.shape (((code c).1 : Nat) : Int) = some ((code c).2.length, 0) := by
  cases c <;> rfl
/-- everything the loop needs of its next turn -/
theorem next_call {ns : List Int} {i f : Nat} {cs : List (List (List Int))} {S : Option Km439.Desk} (hi : i < ns.length) (hc : PyFlat.calls PyKm439.shape f (ns.drop i) = some cs) (ha : cs.all Km439Neutral.asked1 = true) (hm : Km439Neutral.may S cs = true) :
    ∃ c f' cs', ns[i]? = some (((code c).1 : Nat) : Int) ∧ (ns.drop (i + 1)).take (code c).2.length = (code c).2.map (fun n => ((n : Nat) : Int)) ∧ i + 1 + (code c).2.length ≤ ns.length ∧ PyFlat.calls PyKm439.shape f' (ns.drop (i + 1 + (code c).2.length)) = some cs' ∧
      cs'.all Km439Neutral.asked1 = true ∧ Km439Neutral.may (stp S c).1 cs' = true ∧ (S = none → Km439Neutral.isStart c = true) ∧
      PyFlat.told (PyFlat.played Km439Neutral.step S cs) = (((stp S c).2.length : Nat) : Int) :: (stp S c).2 ++ PyFlat.told (PyFlat.played Km439Neutral.step (stp S c).1 cs') := by
  have hd : ns.drop i = ns[i] :: ns.drop (i + 1) := List.drop_eq_getElem_cons hi
  rw [hd] at hc
  obtain ⟨n, f', cs', h1, h2, h3, h4⟩ := calls_cons hc
  subst h3
  rw [List.all_cons, Bool.and_eq_true] at ha
  obtain ⟨c, hc1, hc2⟩ := (call_shape h1 (by rw [List.length_take]; omega)).2 ha.1
  have e1 : ns[i] = (((code c).1 : Nat) : Int) := (List.cons.inj hc2).1
  have e2 : (ns.drop (i + 1)).take n = (code c).2.map (fun n => ((n : Nat) : Int)) := (List.cons.inj hc2).2
  have en : n = (code c).2.length := by
    rw [e1, code_shape] at h1
    have := congrArg Prod.fst (Option.some.inj h1)
    exact this.symm
  subst en
  have es := step_stp (S := S) hc1
  unfold Km439Neutral.may at hm
  rw [es, Bool.and_eq_true] at hm
  refine ⟨c, f', cs', by rw [List.getElem?_eq_getElem hi, e1], e2, ?_, ?_, ha.2, hm.2, fun z => ?_, ?_⟩
  · rw [List.length_drop] at h2; omega
  · rw [List.drop_drop] at h4; exact h4
  · subst z
    cases q : Km439Neutral.isStart c with
    | true => rfl
    | false =>
      have : stp none c = (none, []) := by unfold stp; simp only [q]; rfl
      rw [this] at hm
      exact absurd hm.1 (by decide)
  · show PyFlat.told ((Km439Neutral.step S _).2 :: PyFlat.played Km439Neutral.step (Km439Neutral.step S _).1 cs') = _
    rw [es, told_cons]
theorem ShX.rebase {H0 H0' H : Hp} {sh d ch dc bf ud : Addr} {v : V} {ps fs : List Addr} (X : ShX A H0 H sh d v ch dc bf ud ps fs) (h : ∀ x, fr H0 x → fr H0' x) : ShX A H0' H sh d v ch dc bf ud ps fs :=
  ⟨X.hsh, X.hch, X.hbf, X.hud, X.nbu, X.nsc, h _ X.f1, h _ X.f2, h _ X.f3, h _ X.f4⟩
theorem okS_rebase {H0 H0' : Hp} {sh ch bf ud : Addr} (h : ∀ x, fr H0 x → fr H0' x) : ∀ x, okS H0 sh ch bf ud x → okS H0' sh ch bf ud x := fun x z => ⟨h x z.1, z.2⟩
theorem ShipAt.rebase {H0 H0' H : Hp} {sh : Addr} {S : Option Km439.Desk} (Z : ShipAt A H0 H sh S) (h : ∀ x, fr H0 x → fr H0' x) : ShipAt A H0' H sh S := by
  cases S with
  | none => obtain ⟨d, ch, dc, bf, ud, X⟩ := Z; exact ⟨d, ch, dc, bf, ud, X.rebase h⟩
  | some D =>
    obtain ⟨d, st, ch, dc, bf, ud, ps, fs, X, Y, P1, P2, W⟩ := Z
    exact ⟨d, st, ch, dc, bf, ud, ps, fs, X.rebase h, Y.weak (okS_rebase h), pair_imp (fun _ _ z => z.weak (okS_rebase h)) P1, pair_imp (fun _ _ z => z.weak (okS_rebase h)) P2, W⟩
theorem ShipAt.out {H0 H : Hp} {sh y : Addr} {o o' : HO} {S : Option Km439.Desk} (Z : ShipAt A H0 H sh S) (hy : H0 y ≠ none) (h : H y = some o) (ho : ∀ xs, o ≠ .tup xs) : ShipAt A H0 (upd H y o') sh S := by
  have ne : ∀ {z : Addr}, fr H0 z → z ≠ y := fun hz e => hy (e ▸ hz)
  have sx : ∀ {d v ch dc bf ud ps fs}, ShX A H0 H sh d v ch dc bf ud ps fs → ShX A H0 (upd H y o') sh d v ch dc bf ud ps fs := fun X =>
    ⟨by rw [upd_ne (ne X.f1)]; exact X.hsh, by rw [upd_ne (ne X.f2)]; exact X.hch, by rw [upd_ne (ne X.f3)]; exact X.hbf, by rw [upd_ne (ne X.f4)]; exact X.hud, X.nbu, X.nsc, X.f1, X.f2, X.f3, X.f4⟩
  cases S with
  | none => obtain ⟨d, ch, dc, bf, ud, X⟩ := Z; exact ⟨d, ch, dc, bf, ud, sx X⟩
  | some D =>
    obtain ⟨d, st, ch, dc, bf, ud, ps, fs, X, Y, P1, P2, W⟩ := Z
    have so : ∀ x s, StAt A (okS H0 sh ch bf ud) H x s → StAt A (okS H0 sh ch bf ud) (upd H y o') x s := fun x s z => z.out (fun q => hy q.1) h ho
    exact ⟨d, st, ch, dc, bf, ud, ps, fs, sx X, so _ _ Y, pair_imp so P1, pair_imp so P2, W⟩
theorem cut_mid {ns : List Int} {i n : Nat} (h : i + n ≤ ns.length) : cutV (ns.map V.int) (some (i : Int)) (some ((i + n : Nat) : Int)) = ((ns.drop i).take n).map V.int := by
  unfold cutV
  rw [HT.sIx_nat, HT.sIx_nat, List.length_map, Nat.min_eq_left (show i ≤ ns.length by omega), Nat.min_eq_left h, List.map_take, List.map_drop, show i + n - i = n by omega]
end
end Bts

end
section
set_option Elab.async false
set_option linter.all false
set_option maxRecDepth 100000
set_option maxHeartbeats 4000000
namespace Bts
open PySem PySem.Spec PyProof.Rows L2
section
variable {P : Program} {w : World} {K : PySem.W.Frag} {mg : Str → Option Value} {base : Heap} {A : Ad}
/-- a call that only tells: of the state that stands now -/
theorem Run.ask {H : Hp} {sh : Addr} {c : Km439.Call} {Q : VK} (R : Run A H sh c Q) (hc : isAsk c = true) : ∃ H0 d st ch dc bf ud ps fs, ShX A H0 H sh d (.ref st) ch dc bf ud ps fs ∧ Ask A H st c Q := by
  obtain ⟨H0, SS, S, Z, hns, q⟩ := R
  cases SS with
  | none =>
    have hs := hns rfl
    cases c <;> first | (cases hs; done) | (cases hc; done)
  | some D =>
    obtain ⟨d, st, ch, dc, bf, ud, ps, fs, X, Y, P1, P2, W⟩ := id Z
    refine ⟨H0, d, st, ch, dc, bf, ud, ps, fs, X, D.now, Y.weak fun _ _ => trivial, W.now, fun H' p S' hp fp => ?_⟩
    have es : stp (some D) c = (some D, Km439Neutral.told (ans D.now c)) := by
      unfold stp
      simp only [act_ask hc D]
    rw [es] at q
    exact q H' p (S.trans S') (Z.same S') hp (S.free fp)
theorem code_chg {c : Km439.Call} (h : isChg c = true) : 1 ≤ (code c).1 ∧ (code c).1 ≤ 10 := by
  cases c <;> first | (cases h; done) | exact ⟨Nat.le_of_ble_eq_true rfl, Nat.le_of_ble_eq_true rfl⟩
theorem code_ask {c : Km439.Call} (h : isAsk c = true) : 11 ≤ (code c).1 ∧ (code c).1 ≤ 23 := by
  cases c <;> first | (cases h; done) | exact ⟨Nat.le_of_ble_eq_true rfl, Nat.le_of_ble_eq_true rfl⟩
theorem code_kind (c : Km439.Call) : (∃ n t, c = .start n t) ∨ isChg c = true ∨ isAsk c = true ∨ c = .back ∨ c = .again ∨ c = .state := by
  cases c with
  | start n t => exact .inl ⟨n, t, rfl⟩
  | back => exact .inr (.inr (.inr (.inl rfl)))
  | again => exact .inr (.inr (.inr (.inr (.inl rfl))))
  | state => exact .inr (.inr (.inr (.inr (.inr rfl))))
  | _ => first | exact .inr (.inl rfl) | exact .inr (.inr (.inl rfl))
def sp_Ship_answer (K : PySem.W.Frag) (A : Ad) : Sp := fun vs H Q _ => ∃ (sh g : Addr) (c : Km439.Call), vs = [.ref sh, .int (code c).1, .ref g] ∧ SqL K H g (vints (code c).2) ∧ Run A H sh c Q
theorem ok_Ship_answer (T : Txt K mg A) : FnOk P w K mg base CX0 8 A.f_Ship_answer A.d_Ship_answer P_Ship_answer (sp_Ship_answer K A) := by
  refine T.F_Ship_answer.ok sc_Ship_answer (fun vs H Q E h => ?_) (fun cdv Ar outer s0 H vs Q E hr h => ?_)
  · obtain ⟨sh, g, c, rfl, _⟩ := h
    rfl
  · obtain ⟨sh, g, c, rfl, hg, R⟩ := h
    obtain ⟨d0, v0, ch0, dc0, bf0, ud0, ps0, fs0, hX⟩ : ∃ d v ch dc bf ud ps fs, ∃ H0, ShX A H0 H sh d v ch dc bf ud ps fs := by
      obtain ⟨H0, SS, S, Z, _⟩ := id R
      obtain ⟨d, v, ch, dc, bf, ud, ps, fs, X⟩ := Z.any
      exact ⟨d, v, ch, dc, bf, ud, ps, fs, H0, X⟩
    obtain ⟨H00, X0⟩ := hX
    refine ⟨_, (pss_cons (ps_if (pt_cmpR op_eq (pv 1) (pe_gi (by rfl) T.i_BS_START) (nomark _)) (pss_one (ps_ret (pe_meth (pv 0) T.cl_Ship T.m_Ship_begin (ok_Ship_begin T) (hr.mono (by decide)) (b_Ship_begin T) .nil pass0 (pa_cons (pe_ix ix_list (pv 2) pe_int (fun _ _ => rfl)) (pa_cons (pe_ix ix_list (pv 2) pe_int (fun _ _ => rfl)) pa_nil))))) pss_nil)
        (pss_cons (ps_if (pt_chain op_le op_le (pe_gi (by rfl) T.i_BS_BOAT) (pv 1) (pe_gi (by rfl) T.i_BS_SAIL)) (pss_one (ps_ret (pe_meth (pv 0) T.cl_Ship T.m_Ship_change (ok_Ship_change T) (hr.mono (by decide)) (b_Ship_change T) .nil pass0 (pa_cons (pv 1) (pa_cons (pv 2) pa_nil))))) pss_nil)
        (pss_cons (ps_if (pt_cmpR op_eq (pv 1) (pe_gi (by rfl) T.i_BS_BACK) (nomark _)) (pss_one (ps_ret (pe_meth0 (pv 0) T.cl_Ship T.m_Ship_take_back (ok_Ship_take_back T) (hr.mono (by decide)) (b_Ship_take_back T) .nil pass0))) pss_nil)
        (pss_cons (ps_if (pt_cmpR op_eq (pv 1) (pe_gi (by rfl) T.i_BS_AGAIN) (nomark _)) (pss_one (ps_ret (pe_meth0 (pv 0) T.cl_Ship T.m_Ship_do_again (ok_Ship_do_again T) (hr.mono (by decide)) (b_Ship_do_again T) .nil pass0))) pss_nil)
        (pss_cons (ps_if (pt_cmpR op_eq (pv 1) (pe_gi (by rfl) T.i_BS_STATE) (nomark _)) (pss_one (ps_ret (pe_call (ok_bs_state T) (hr.mono (by decide)) rfl T.g_bs_state T.F_bs_state.kp (b_bs_state T) .nil pass0 (pa_cons (pe_fld (pv 0) rfl) (pa_cons (pe_fld (pv 0) rfl) pa_nil))))) pss_nil)
        (pss_one (ps_ret (pe_call (ok_asked T) (hr.mono (by decide)) rfl T.g_asked T.F_asked.kp (b_asked T) .nil pass0 (pa_cons (pe_fld (pv 0) rfl) (pa_cons (pv 1) (pa_cons (pv 2) pa_nil))))))))))), ?_⟩
    refine ⟨_, rfl, rfl, _, rfl, ?_⟩
    rcases code_kind c with ⟨n, t, rfl⟩ | hc | hc | rfl | rfl | rfl
    · refine iteD rfl ?_
      exact ⟨_, rfl, sh, d0, _, rfl, X0.hsh, hF_no_begin _ _, _, rfl, g, _, _, _, rfl, rfl, hg, at_of (j := 0) rfl rfl, _, rfl, g, _, _, _, rfl, rfl, hg, at_of (j := 1) rfl rfl, sh, n, t, rfl, R⟩
    · have hk := code_chg hc
      refine iteDn (nev (by omega)) ?_
      refine ⟨_, rfl, _, _, rfl, rfl, _, rfl, ?_⟩
      refine iteD (by omega) ⟨_, _, rfl, rfl, _, rfl, ?_⟩
      refine iteD (by omega) ?_
      exact ⟨_, rfl, sh, d0, _, rfl, X0.hsh, hF_no_change _ _, _, rfl, _, rfl, sh, g, c, rfl, hc, hg, R⟩
    · have hk := code_ask hc
      refine iteDn (nev (by omega)) ?_
      refine ⟨_, rfl, _, _, rfl, rfl, _, rfl, ?_⟩
      refine iteD (by omega) ⟨_, _, rfl, rfl, _, rfl, ?_⟩
      refine iteDn (by omega) ?_
      refine ⟨_, rfl, rfl, _, rfl, iteDn (nev (by omega)) ?_⟩
      refine ⟨_, rfl, rfl, _, rfl, iteDn (nev (by omega)) ?_⟩
      refine ⟨_, rfl, rfl, _, rfl, iteDn (nev (by omega)) ?_⟩
      obtain ⟨H0, d, st, ch, dc, bf, ud, ps, fs, X, q⟩ := R.ask hc
      exact ⟨_, rfl, sh, _, d, _, _, rfl, X.hsh, T.cl_Ship, T.n_Ship_state, hF_state _ _, _, rfl, _, rfl, st, g, c, rfl, hc, hg, q⟩
    · refine iteDn (nev (by show ¬ ((24 : Nat) : Int) = 0; decide)) ?_
      refine ⟨_, rfl, _, _, rfl, rfl, _, rfl, ?_⟩
      refine iteD (by show (1 : Int) ≤ ((24 : Nat) : Int); decide) ⟨_, _, rfl, rfl, _, rfl, ?_⟩
      refine iteDn (by show ¬ ((24 : Nat) : Int) ≤ 10; decide) ?_
      refine ⟨_, rfl, rfl, _, rfl, iteD rfl ?_⟩
      exact ⟨_, rfl, sh, d0, _, rfl, X0.hsh, hF_no_take_back _ _, sh, rfl, R⟩
    · refine iteDn (nev (by show ¬ ((25 : Nat) : Int) = 0; decide)) ?_
      refine ⟨_, rfl, _, _, rfl, rfl, _, rfl, ?_⟩
      refine iteD (by show (1 : Int) ≤ ((25 : Nat) : Int); decide) ⟨_, _, rfl, rfl, _, rfl, ?_⟩
      refine iteDn (by show ¬ ((25 : Nat) : Int) ≤ 10; decide) ?_
      refine ⟨_, rfl, rfl, _, rfl, iteDn (nev (by show ¬ ((25 : Nat) : Int) = 24; decide)) ?_⟩
      refine ⟨_, rfl, rfl, _, rfl, iteD rfl ?_⟩
      exact ⟨_, rfl, sh, d0, _, rfl, X0.hsh, hF_no_do_again _ _, sh, rfl, R⟩
    · refine iteDn (nev (by show ¬ ((26 : Nat) : Int) = 0; decide)) ?_
      refine ⟨_, rfl, _, _, rfl, rfl, _, rfl, ?_⟩
      refine iteD (by show (1 : Int) ≤ ((26 : Nat) : Int); decide) ⟨_, _, rfl, rfl, _, rfl, ?_⟩
      refine iteDn (by show ¬ ((26 : Nat) : Int) ≤ 10; decide) ?_
      refine ⟨_, rfl, rfl, _, rfl, iteDn (nev (by show ¬ ((26 : Nat) : Int) = 24; decide)) ?_⟩
      refine ⟨_, rfl, rfl, _, rfl, iteDn (nev (by show ¬ ((26 : Nat) : Int) = 25; decide)) ?_⟩
      refine ⟨_, rfl, rfl, _, rfl, iteD rfl ?_⟩
      obtain ⟨H0, SS, S, Z, hns, q⟩ := R
      cases SS with
      | none => exact absurd (hns rfl) (by decide)
      | some D =>
        obtain ⟨d, st, ch, dc, bf, ud, ps, fs, X, Y, P1, P2, W⟩ := id Z
        have l1 := pair_len P1
        have l2 := pair_len P2
        rw [List.length_reverse] at l1 l2
        refine ⟨_, rfl, sh, _, d, _, _, rfl, X.hsh, T.cl_Ship, T.n_Ship_state, hF_state _ _, _, rfl, sh, _, d, _, _, rfl, X.hsh, T.cl_Ship, T.n_Ship_changes, hF_changes _ _, st, ch, dc, bf, ud, D.now, _, ps, fs, rfl, Y, X.hch, X.hbf, X.hud, fun p hp => ?_⟩
        rw [l1, l2]
        exact q _ p (S.trans (Same.new hp _)) (Z.same (Same.new hp _)) upd_same (S.free hp)
end
end Bts

end
section
set_option Elab.async false
set_option linter.all false
set_option maxRecDepth 100000
set_option maxHeartbeats 4000000
namespace Bts
open PySem PySem.Spec PyProof.Rows L2
section
variable {P : Program} {w : World} {K : PySem.W.Frag} {mg : Str → Option Value} {base : Heap} {A : Ad}
def spAns (K : PySem.W.Frag) : Sp := fun vs H Q _ => ∃ (a : Addr) (ns : List Int), vs = [.ref a] ∧ SqL K H a (ns.map V.int) ∧ ns.length ≤ 5000 ∧ PyKm439.answers_asked ns = true ∧ ∀ (H' : Hp) (p : Addr), H' p = some (.lst ((PyKm439.answers ns).map V.int)) → Q (.ref p) H'
abbrev sp_answers (K : PySem.W.Frag) (A : Ad) : Sp := spAns K
theorem asked_opens {ns : List Int} (h : PyKm439.answers_asked ns = true) : ∃ cs, PyFlat.calls PyKm439.shape ns.length ns = some cs ∧ cs.all Km439Neutral.asked1 = true ∧ Km439Neutral.may none cs = true ∧ PyKm439.answers ns = PyFlat.told (PyFlat.played Km439Neutral.step none cs) ∧ (PyKm439.answers ns).length ≤ 10000000 := by
  unfold PyKm439.answers_asked at h
  cases e : PyFlat.calls PyKm439.shape ns.length ns with
  | none => simp only [e] at h; cases h
  | some cs =>
    simp only [e] at h
    rw [calls_whole _ _ _ e] at h
    simp only [Bool.and_eq_true] at h
    obtain ⟨⟨_, h4⟩, h5⟩ := h
    unfold Km439Neutral.asked at h4
    simp only [Bool.and_eq_true] at h4
    refine ⟨cs, rfl, h4.2.2.1, h4.2.2.2, ?_, ?_⟩
    · unfold PyKm439.answers PyKm439.calls
      simp only [e]
      rw [calls_whole _ _ _ e]
      rfl
    · unfold PyFlat.short at h5
      exact of_decide_eq_true h5
/-- what the others see of the heap: all that was, and the list that is told -/
abbrev seen (H : Hp) (tl : Addr) (out : List Int) : Hp := upd H tl (.lst (out.map V.int))
theorem seen_at {H : Hp} {tl : Addr} {out : List Int} : seen H tl out tl = some (.lst (out.map V.int)) := upd_same
theorem seen_ne {H : Hp} {tl b : Addr} {out : List Int} (h : b ≠ tl) : seen H tl out b = H b := upd_ne h
theorem seen_fr {H : Hp} {tl : Addr} {o1 o2 : List Int} : ∀ x, fr (seen H tl o1) x → fr (seen H tl o2) x := fun x h => by
  have q := upd_free h
  show upd H tl _ x = none
  rw [upd_ne q.2]
  exact q.1
theorem ok_answers (T : Txt K mg A) : FnOk P w K mg base CX0 9 A.f_answers A.d_answers P_answers (sp_answers K A) := by
  refine T.F_answers.ok sc_answers (fun vs H Q E h => ?_) (fun cdv Ar outer s0 H vs Q E hr h => ?_)
  · obtain ⟨a, ns, rfl, _⟩ := h
    rfl
  · obtain ⟨a, ns, rfl, hS, hlen, hask, k⟩ := h
    obtain ⟨cs0, hc0, ha0, hm0, he0, hl0⟩ := asked_opens hask
    refine ⟨_, (pss_cons (ps_set (i := 1) sc_answers.nd rfl (by first | exact Or.inl rfl | exact Or.inr rfl) (pe_make0 T.mk_Ship (ok_Ship_init T) (hr.mono (by decide)) rfl T.g_Ship (b_Ship_init T) .nil pass0))
        (pss_cons (ps_set (i := 2) sc_answers.nd rfl (by first | exact Or.inl rfl | exact Or.inr rfl) (pe_lst pa_nil))
        (pss_cons (ps_set (i := 3) sc_answers.nd rfl (by first | exact Or.inl rfl | exact Or.inr rfl) pe_int)
        (pss_cons (ps_while PassesOwn.never (pt_cmpR op_lt (pv 3) (pe_callB call_len_seq (by rfl) T.z_len PySem.boot_len (pa_cons (pv 0) pa_nil)) (nomark _)) (pss_cons (ps_set (i := 4) sc_answers.nd rfl (by first | exact Or.inl rfl | exact Or.inr rfl) (pe_ix ix_list (pv 0) (pv 3) (fun _ _ => rfl)))
        (pss_cons (ps_set (i := 5) sc_answers.nd rfl (by first | exact Or.inl rfl | exact Or.inr rfl) (pe_op op_add (pe_op op_add (pv 3) pe_int) (pe_ix ix_tup (pe_glob (v := .ref A.a_NUMBERS_BEHIND) rfl T.t_NUMBERS_BEHIND.1 rfl) (pv 4) (fun _ _ => rfl))))
        (pss_cons (ps_set (i := 6) sc_answers.nd rfl (by first | exact Or.inl rfl | exact Or.inr rfl) (pe_meth (pv 1) T.cl_Ship T.m_Ship_answer (ok_Ship_answer T) (hr.mono (by decide)) (b_Ship_answer T) .nil pass0 (pa_cons (pv 4) (pa_cons (pe_slice sl_list (pv 0) (po_some (pe_op op_add (pv 3) pe_int)) (po_some (pv 5))) pa_nil))))
        (pss_cons (ps_expr (pe_bm PySem.F.plainAttrs_list PySem.F.slot_list_append PySem.F.type_list_append mt_append (pv 2) (pa_cons (pe_callB call_len_seq (by rfl) T.z_len PySem.boot_len (pa_cons (pv 6) pa_nil)) pa_nil)))
        (pss_cons (ps_expr (pe_bm PySem.F.plainAttrs_list PySem.F.slot_list_extend PySem.F.type_list_extend mt_extend (pv 2) (pa_cons (pv 6) pa_nil)))
        (pss_one (ps_set (i := 3) sc_answers.nd rfl (by first | exact Or.inl rfl | exact Or.inr rfl) (pv 5)))))))))
        (pss_one (ps_ret (pv 2))))))), ?_⟩
    intro sh dx nsh ndx nn
    refine ⟨sh, dx, rfl, upd_same, fun H1 ch dc bf ud e1 e2 e3 e4 nbu npc fch fbf fud k1 => ⟨rfl, ?_⟩⟩
    have S1 : Same H H1 := Same.made nsh ndx k1
    have gch := upd_free (upd_free fch).1
    have gbf := upd_free (upd_free fbf).1
    have gud := upd_free (upd_free fud).1
    refine ⟨Nat.zero_le _, fun tl htl => ?_⟩
    have ftl : H tl = none := S1.free htl
    have fresh : ∀ {x : Addr} {o : HO}, H1 x = some o → H x = none → fr (seen H tl []) x := fun {x o} h1 h2 => by
      show upd H tl _ x = none
      rw [upd_ne (ne_of_none h1 htl)]
      exact h2
    have Sa : Same (seen H tl []) (upd H1 tl (.lst [])) := fun b o e => by
      by_cases q : b = tl
      · subst q
        rw [seen_at] at e
        rw [upd_same]
        exact e
      · rw [seen_ne q] at e
        rw [upd_ne q]
        exact S1 _ _ e
    have Za : ShipAt A (seen H tl []) (upd H1 tl (.lst [])) sh none :=
      ⟨dx, ch, dc, bf, ud, (⟨e1, e2, e3, e4, nbu, npc, fresh e1 nsh, fresh e2 gch.1, fresh e3 gbf.1, fresh e4 gud.1⟩ : ShX A (seen H tl []) H1 sh dx .non ch dc bf ud [] []).same (Same.new htl _)⟩
    refine ⟨fun m σ H' => ∃ (i f : Nat) (S : Option Km439.Desk) (cs : List (List (List Int))) (out : List Int) (v4 v5 v6 : Option V), σ = [some (.ref a), some (.ref sh), some (.ref tl), some (.int (i : Nat)), v4, v5, v6] ∧ i ≤ ns.length ∧ PyFlat.calls PyKm439.shape f (ns.drop i) = some cs ∧ cs.all Km439Neutral.asked1 = true ∧ Km439Neutral.may S cs = true ∧
        out ++ PyFlat.told (PyFlat.played Km439Neutral.step S cs) = PyKm439.answers ns ∧ Same (seen H tl out) H' ∧ ShipAt A (seen H tl out) H' sh S ∧ m = ns.length - i,
      ⟨_, 0, ns.length, none, cs0, [], none, none, none, rfl, Nat.zero_le _, by rw [List.drop_zero]; exact hc0, ha0, hm0, he0.symm, Sa, Za, rfl⟩, ?_⟩
    rintro m σ H' ⟨i, f, S, cs, out, v4, v5, v6, rfl, hi, hc, ha, hm, he, Sh, Z, rfl⟩
    have SH : Same H H' := fun b o e => Sh b o (by show upd H tl _ b = _; rw [upd_ne (ne_of_none e ftl)]; exact e)
    have hSq := SH.seq hS
    have htl' : H' tl = some (.lst (out.map V.int)) := Sh _ _ upd_same
    refine ⟨_, rfl, _, rfl, a, _, rfl, .inl hSq, _, _, rfl, rfl, _, rfl, ?_⟩
    by_cases c1 : i < ns.length
    · refine iteD (by rw [List.length_map]; omega) ⟨_, fun σ' H5 h5 => h5, ?_⟩
      obtain ⟨c, f', cs', g1, g2, g3, g4, g5, g6, g7, g8⟩ := next_call c1 hc ha hm
      -- number = calls[at]
      refine ⟨_, rfl, _, rfl, a, _, _, _, rfl, rfl, hSq, at_of (j := i) rfl (by rw [List.getElem?_map, g1]; rfl), ?_⟩
      -- behind = at + 1 + NUMBERS_BEHIND[number]
      refine ⟨_, rfl, _, _, rfl, rfl, _, rfl, A.a_NUMBERS_BEHIND, _, _, _, rfl, rfl, T.t_NUMBERS_BEHIND.2 _, at_of (j := (code c).1) (v := V.int ((code c).2.length : Nat)) rfl (by cases c <;> rfl), _, _, rfl, rfl, ?_⟩
      have eb : (((i : Nat) : Int) + 1 + ((code c).2.length : Nat)) = ((i + 1 + (code c).2.length : Nat) : Int) := by omega
      dsimp only
      rw [eb]
      -- answer = ship.answer(number, calls[at + 1:behind])
      obtain ⟨d, v, ch1, dc1, bf1, ud1, ps, fs, X⟩ := Z.any
      refine ⟨_, rfl, sh, d, _, rfl, X.hsh, hF_no_answer v ch1, _, rfl, _, rfl, _, rfl, _, _, rfl, rfl, _, rfl, _, rfl, _, rfl, a, _, rfl, hSq, fun g hg => ?_⟩
      have ei : (((i : Nat) : Int) + 1) = ((i + 1 : Nat) : Int) := by omega
      dsimp only
      rw [ei, cut_mid g3, g2]
      have Sg := Same.new hg (.lst (((code c).2.map fun n => ((n : Nat) : Int)).map V.int))
      refine ⟨sh, g, c, rfl, SqL.of (by rw [upd_same, List.map_map]; rfl), seen H tl out, S, Sh.trans Sg, Z.same Sg, g7, fun H3 q S3 Z3 hq fq => ?_⟩
      have ntl : q ≠ tl := (upd_free fq).2
      have t3 : H3 tl = some (.lst (out.map V.int)) := S3 _ _ upd_same
      rw [g8] at he
      have hol : out.length + (1 + (stp S c).2.length) ≤ 10000000 := by
        have hq2 := congrArg List.length he
        rw [List.length_append, List.length_append, List.length_cons] at hq2
        omega
      -- told.append(len(answer))
      refine ⟨_, rfl, .inl ⟨rfl, _, SqL.of t3⟩, _, rfl, q, _, rfl, .inl (SqL.of hq), tl, _, _, rfl, rfl, t3, (by rw [List.length_map]; exact Nat.lt_of_le_of_lt (show out.length ≤ 10000000 by omega) (by decide)), ?_⟩
      -- told.extend(answer)
      refine ⟨_, rfl, .inl ⟨rfl, _, SqL.of upd_same⟩, _, rfl, tl, q, _, _, rfl, rfl, upd_same, (by rw [upd_ne ntl]; exact hq), (by rw [List.length_append, List.length_map, List.length_map, List.length_singleton]; exact Nat.le_trans (show out.length + 1 + (stp S c).2.length ≤ 10000000 by omega) (by decide)), ?_⟩
      have el : (out.map V.int ++ [V.int ((((stp S c).2.map V.int).length : Nat) : Int)] ++ (stp S c).2.map V.int) = (out ++ ((((stp S c).2.length : Nat) : Int) :: (stp S c).2)).map V.int := by
        rw [List.length_map, List.map_append, List.map_cons, List.append_assoc]
        rfl
      rw [el]
      -- at = behind
      refine ⟨_, rfl, ns.length - (i + 1 + (code c).2.length), (by omega), i + 1 + (code c).2.length, f', (stp S c).1, cs', out ++ ((((stp S c).2.length : Nat) : Int) :: (stp S c).2), _, _, _, rfl, g3, g4, g5, g6, ?_, ?_, ?_, rfl⟩
      · rw [← he, List.append_assoc]
      · intro b o e
        by_cases qb : b = tl
        · subst qb
          rw [seen_at] at e
          rw [upd_same]
          exact e
        · rw [seen_ne qb] at e
          rw [upd_ne qb, upd_ne qb]
          exact S3 _ _ (by show upd H tl _ b = _; rw [upd_ne qb]; exact e)
      · have hy : seen H tl out tl ≠ none := by rw [seen_at]; intro z; cases z
        exact ((Z3.out hy t3 (by intro xs z; cases z)).out hy upd_same (by intro xs z; cases z)).rebase seen_fr
    · refine iteDn (by rw [List.length_map]; omega) ⟨_, rfl, ?_⟩
      have ei : ns.drop i = [] := List.drop_eq_nil_of_le (by omega)
      rw [ei] at hc
      have ec := calls_nil hc
      subst ec
      have eo : out = PyKm439.answers ns := by
        rw [← he]
        show out = out ++ []
        rw [List.append_nil]
      rw [eo] at htl'
      exact k H' tl htl'
end
end Bts

end
section
set_option Elab.async false
set_option linter.all false
set_option maxRecDepth 100000
set_option maxHeartbeats 4000000
namespace Bts
open PySem PySem.Spec PyProof.Rows L2
section
variable {K : PySem.W.Frag} {mg : Str → Option Value} {h : Heap}
theorem fn_mk (X : K.In h) (G : h.Ns mainGlobals mg) {x : Str} {st : Stmt} {f : Addr} {oc : Value} {od an : Option Addr} {osl : Array (Option Value)} {kV doc pm cdv ct : Value} (a : PySem.W.nsIn K mainGlobals x = some (some (.ref f)))
    (l : K.lookup f = some ⟨oc, od, .func (PySem.W.fnOf x x (defArgs st) (defBody st) (defScope st) .none kV doc pm an cdv ct), osl⟩) (c : PySem.W.codeIn K cdv x = true) (k : PySem.W.keepIn K (.ref f) = true) : ∃ (f : Addr) (d : FuncData), Fun K x x st f d ∧ mg x = some (.ref f) :=
  ⟨f, _, fun_mk (st := st) l c k, PySem.W.mg_of X G a⟩
theorem int_mk (X : K.In h) (G : h.Ns mainGlobals mg) {x : Str} {n : Int} {t : Tok} (a : PySem.W.nsIn K mainGlobals x = some (some (.int n t))) : ∃ t, mg x = some (.int n t) := ⟨t, PySem.W.mg_of X G a⟩
theorem tup_mk (X : K.In h) (G : h.Ns mainGlobals mg) {x : Str} {a : Addr} {xs : List V} {o : Obj} {its : Array Value} {n : Nat} (e : PySem.W.nsIn K mainGlobals x = some (some (.ref a))) (l : K.lookup a = some o) (c : o.cls = .type "tuple") (d : o.data = .seq its n) (z : its.size ≤ sizeLine) (r : Vals xs its.toList) :
    ∃ a, mg x = some (.ref a) ∧ ∀ H : Hp, SqT K H a xs := ⟨a, PySem.W.mg_of X G e, fun _ => .inr ⟨o, its, n, l, c, d, z, r⟩⟩
theorem cls_Boat_mk (X : K.In h) (G : h.Ns mainGlobals mg) {C : Addr} {f_Boat_init : Addr} {oc_Boat_init : Value} {od_Boat_init an_Boat_init : Option Addr} {sl_Boat_init : Array (Option Value)} {kV_Boat_init dc_Boat_init pm_Boat_init cd_Boat_init ct_Boat_init : Value} {f_Boat_is_on_its_way : Addr} {oc_Boat_is_on_its_way : Value} {od_Boat_is_on_its_way an_Boat_is_on_its_way : Option Addr} {sl_Boat_is_on_its_way : Array (Option Value)} {kV_Boat_is_on_its_way dc_Boat_is_on_its_way pm_Boat_is_on_its_way cd_Boat_is_on_its_way ct_Boat_is_on_its_way : Value} {f_Boat_seats_left : Addr} {oc_Boat_seats_left : Value} {od_Boat_seats_left an_Boat_seats_left : Option Addr} {sl_Boat_seats_left : Array (Option Value)} {kV_Boat_seats_left dc_Boat_seats_left pm_Boat_seats_left cd_Boat_seats_left ct_Boat_seats_left : Value} {f_Boat_twin : Addr} {oc_Boat_twin : Value} {od_Boat_twin an_Boat_twin : Option Addr} {sl_Boat_twin : Array (Option Value)} {kV_Boat_twin dc_Boat_twin pm_Boat_twin cd_Boat_twin ct_Boat_twin : Value} (aC : PySem.W.nsIn K mainGlobals "Boat" = some (some (.ref C))) (a_Boat_init : PySem.W.findIn K (.ref C) "__init__" = some (some (.ref f_Boat_init))) (i_Boat_init : PySem.W.isFn K (.ref f_Boat_init) = true) (l_Boat_init : K.lookup f_Boat_init = some ⟨oc_Boat_init, od_Boat_init, .func (PySem.W.fnOf "__init__" "Boat.__init__" (defArgs s_Boat_init) (defBody s_Boat_init) (defScope s_Boat_init) .none kV_Boat_init dc_Boat_init pm_Boat_init an_Boat_init cd_Boat_init ct_Boat_init), sl_Boat_init⟩) (c_Boat_init : PySem.W.codeIn K cd_Boat_init "Boat.__init__" = true) (k_Boat_init : PySem.W.keepIn K (.ref f_Boat_init) = true) (a_Boat_is_on_its_way : PySem.W.findIn K (.ref C) "is_on_its_way" = some (some (.ref f_Boat_is_on_its_way))) (i_Boat_is_on_its_way : PySem.W.isFn K (.ref f_Boat_is_on_its_way) = true) (l_Boat_is_on_its_way : K.lookup f_Boat_is_on_its_way = some ⟨oc_Boat_is_on_its_way, od_Boat_is_on_its_way, .func (PySem.W.fnOf "is_on_its_way" "Boat.is_on_its_way" (defArgs s_Boat_is_on_its_way) (defBody s_Boat_is_on_its_way) (defScope s_Boat_is_on_its_way) .none kV_Boat_is_on_its_way dc_Boat_is_on_its_way pm_Boat_is_on_its_way an_Boat_is_on_its_way cd_Boat_is_on_its_way ct_Boat_is_on_its_way), sl_Boat_is_on_its_way⟩) (c_Boat_is_on_its_way : PySem.W.codeIn K cd_Boat_is_on_its_way "Boat.is_on_its_way" = true) (k_Boat_is_on_its_way : PySem.W.keepIn K (.ref f_Boat_is_on_its_way) = true) (a_Boat_seats_left : PySem.W.findIn K (.ref C) "seats_left" = some (some (.ref f_Boat_seats_left))) (i_Boat_seats_left : PySem.W.isFn K (.ref f_Boat_seats_left) = true) (l_Boat_seats_left : K.lookup f_Boat_seats_left = some ⟨oc_Boat_seats_left, od_Boat_seats_left, .func (PySem.W.fnOf "seats_left" "Boat.seats_left" (defArgs s_Boat_seats_left) (defBody s_Boat_seats_left) (defScope s_Boat_seats_left) .none kV_Boat_seats_left dc_Boat_seats_left pm_Boat_seats_left an_Boat_seats_left cd_Boat_seats_left ct_Boat_seats_left), sl_Boat_seats_left⟩) (c_Boat_seats_left : PySem.W.codeIn K cd_Boat_seats_left "Boat.seats_left" = true) (k_Boat_seats_left : PySem.W.keepIn K (.ref f_Boat_seats_left) = true) (a_Boat_twin : PySem.W.findIn K (.ref C) "twin" = some (some (.ref f_Boat_twin))) (i_Boat_twin : PySem.W.isFn K (.ref f_Boat_twin) = true) (l_Boat_twin : K.lookup f_Boat_twin = some ⟨oc_Boat_twin, od_Boat_twin, .func (PySem.W.fnOf "twin" "Boat.twin" (defArgs s_Boat_twin) (defBody s_Boat_twin) (defScope s_Boat_twin) .none kV_Boat_twin dc_Boat_twin pm_Boat_twin an_Boat_twin cd_Boat_twin ct_Boat_twin), sl_Boat_twin⟩) (c_Boat_twin : PySem.W.codeIn K cd_Boat_twin "Boat.twin" = true) (k_Boat_twin : PySem.W.keepIn K (.ref f_Boat_twin) = true) (n_seats : PySem.W.findIn K (.ref C) "seats" = some none) (n_way : PySem.W.findIn K (.ref C) "way" = some none) (n_most_swell : PySem.W.findIn K (.ref C) "most_swell" = some none) (n_inside : PySem.W.findIn K (.ref C) "inside" = some none) (n_to_shore : PySem.W.findIn K (.ref C) "to_shore" = some none) (n_minutes_left : PySem.W.findIn K (.ref C) "minutes_left" = some none)
    (pg : PySem.W.plainGet K C Str.empty = true) (hd : PySem.W.hasDictIn K C = true) (po : PySem.W.plainOver K C = true) (sa : PySem.W.findIn K (.ref C) "__setattr__" = some (some (.builtin "object.__setattr__"))) (mk : PySem.W.makesIn K C = true) (kc : PySem.W.keepIn K (.ref C) = true) :
    ∃ (C : Addr) (f_Boat_init : Addr) (d_Boat_init : FuncData) (f_Boat_is_on_its_way : Addr) (d_Boat_is_on_its_way : FuncData) (f_Boat_seats_left : Addr) (d_Boat_seats_left : FuncData) (f_Boat_twin : Addr) (d_Boat_twin : FuncData), Cls K C ∧ mg "Boat" = some (.ref C) ∧ Mk K C f_Boat_init ∧ NoAttr K C "seats" ∧ NoAttr K C "way" ∧ NoAttr K C "most_swell" ∧ NoAttr K C "inside" ∧ NoAttr K C "to_shore" ∧ NoAttr K C "minutes_left" ∧ Fun K "__init__" "Boat.__init__" s_Boat_init f_Boat_init d_Boat_init ∧ Fun K "is_on_its_way" "Boat.is_on_its_way" s_Boat_is_on_its_way f_Boat_is_on_its_way d_Boat_is_on_its_way ∧ Meth K C "is_on_its_way" f_Boat_is_on_its_way ∧ Fun K "seats_left" "Boat.seats_left" s_Boat_seats_left f_Boat_seats_left d_Boat_seats_left ∧ Meth K C "seats_left" f_Boat_seats_left ∧ Fun K "twin" "Boat.twin" s_Boat_twin f_Boat_twin d_Boat_twin ∧ Meth K C "twin" f_Boat_twin :=
  ⟨C, f_Boat_init, _, f_Boat_is_on_its_way, _, f_Boat_seats_left, _, f_Boat_twin, _, ⟨pg, hd, po, sa⟩, PySem.W.mg_of X G aC, ⟨mk, a_Boat_init, i_Boat_init, kc⟩, n_seats, n_way, n_most_swell, n_inside, n_to_shore, n_minutes_left, fun_mk (st := s_Boat_init) l_Boat_init c_Boat_init k_Boat_init, fun_mk (st := s_Boat_is_on_its_way) l_Boat_is_on_its_way c_Boat_is_on_its_way k_Boat_is_on_its_way, ⟨a_Boat_is_on_its_way, i_Boat_is_on_its_way, k_Boat_is_on_its_way⟩, fun_mk (st := s_Boat_seats_left) l_Boat_seats_left c_Boat_seats_left k_Boat_seats_left, ⟨a_Boat_seats_left, i_Boat_seats_left, k_Boat_seats_left⟩, fun_mk (st := s_Boat_twin) l_Boat_twin c_Boat_twin k_Boat_twin, ⟨a_Boat_twin, i_Boat_twin, k_Boat_twin⟩⟩
theorem cls_State_mk (X : K.In h) (G : h.Ns mainGlobals mg) {C : Addr} {f_State_init : Addr} {oc_State_init : Value} {od_State_init an_State_init : Option Addr} {sl_State_init : Array (Option Value)} {kV_State_init dc_State_init pm_State_init cd_State_init ct_State_init : Value} {f_State_has_boat : Addr} {oc_State_has_boat : Value} {od_State_has_boat an_State_has_boat : Option Addr} {sl_State_has_boat : Array (Option Value)} {kV_State_has_boat dc_State_has_boat pm_State_has_boat cd_State_has_boat ct_State_has_boat : Value} {f_State_may_go : Addr} {oc_State_may_go : Value} {od_State_may_go an_State_may_go : Option Addr} {sl_State_may_go : Array (Option Value)} {kV_State_may_go dc_State_may_go pm_State_may_go cd_State_may_go ct_State_may_go : Value} {f_State_waiting : Addr} {oc_State_waiting : Value} {od_State_waiting an_State_waiting : Option Addr} {sl_State_waiting : Array (Option Value)} {kV_State_waiting dc_State_waiting pm_State_waiting cd_State_waiting ct_State_waiting : Value} {f_State_in_boats : Addr} {oc_State_in_boats : Value} {od_State_in_boats an_State_in_boats : Option Addr} {sl_State_in_boats : Array (Option Value)} {kV_State_in_boats dc_State_in_boats pm_State_in_boats cd_State_in_boats ct_State_in_boats : Value} {f_State_free_on_ship : Addr} {oc_State_free_on_ship : Value} {od_State_free_on_ship an_State_free_on_ship : Option Addr} {sl_State_free_on_ship : Array (Option Value)} {kV_State_free_on_ship dc_State_free_on_ship pm_State_free_on_ship cd_State_free_on_ship ct_State_free_on_ship : Value} {f_State_twin : Addr} {oc_State_twin : Value} {od_State_twin an_State_twin : Option Addr} {sl_State_twin : Array (Option Value)} {kV_State_twin dc_State_twin pm_State_twin cd_State_twin ct_State_twin : Value} (aC : PySem.W.nsIn K mainGlobals "State" = some (some (.ref C))) (a_State_init : PySem.W.findIn K (.ref C) "__init__" = some (some (.ref f_State_init))) (i_State_init : PySem.W.isFn K (.ref f_State_init) = true) (l_State_init : K.lookup f_State_init = some ⟨oc_State_init, od_State_init, .func (PySem.W.fnOf "__init__" "State.__init__" (defArgs s_State_init) (defBody s_State_init) (defScope s_State_init) .none kV_State_init dc_State_init pm_State_init an_State_init cd_State_init ct_State_init), sl_State_init⟩) (c_State_init : PySem.W.codeIn K cd_State_init "State.__init__" = true) (k_State_init : PySem.W.keepIn K (.ref f_State_init) = true) (a_State_has_boat : PySem.W.findIn K (.ref C) "has_boat" = some (some (.ref f_State_has_boat))) (i_State_has_boat : PySem.W.isFn K (.ref f_State_has_boat) = true) (l_State_has_boat : K.lookup f_State_has_boat = some ⟨oc_State_has_boat, od_State_has_boat, .func (PySem.W.fnOf "has_boat" "State.has_boat" (defArgs s_State_has_boat) (defBody s_State_has_boat) (defScope s_State_has_boat) .none kV_State_has_boat dc_State_has_boat pm_State_has_boat an_State_has_boat cd_State_has_boat ct_State_has_boat), sl_State_has_boat⟩) (c_State_has_boat : PySem.W.codeIn K cd_State_has_boat "State.has_boat" = true) (k_State_has_boat : PySem.W.keepIn K (.ref f_State_has_boat) = true) (a_State_may_go : PySem.W.findIn K (.ref C) "may_go" = some (some (.ref f_State_may_go))) (i_State_may_go : PySem.W.isFn K (.ref f_State_may_go) = true) (l_State_may_go : K.lookup f_State_may_go = some ⟨oc_State_may_go, od_State_may_go, .func (PySem.W.fnOf "may_go" "State.may_go" (defArgs s_State_may_go) (defBody s_State_may_go) (defScope s_State_may_go) .none kV_State_may_go dc_State_may_go pm_State_may_go an_State_may_go cd_State_may_go ct_State_may_go), sl_State_may_go⟩) (c_State_may_go : PySem.W.codeIn K cd_State_may_go "State.may_go" = true) (k_State_may_go : PySem.W.keepIn K (.ref f_State_may_go) = true) (a_State_waiting : PySem.W.findIn K (.ref C) "waiting" = some (some (.ref f_State_waiting))) (i_State_waiting : PySem.W.isFn K (.ref f_State_waiting) = true) (l_State_waiting : K.lookup f_State_waiting = some ⟨oc_State_waiting, od_State_waiting, .func (PySem.W.fnOf "waiting" "State.waiting" (defArgs s_State_waiting) (defBody s_State_waiting) (defScope s_State_waiting) .none kV_State_waiting dc_State_waiting pm_State_waiting an_State_waiting cd_State_waiting ct_State_waiting), sl_State_waiting⟩) (c_State_waiting : PySem.W.codeIn K cd_State_waiting "State.waiting" = true) (k_State_waiting : PySem.W.keepIn K (.ref f_State_waiting) = true) (a_State_in_boats : PySem.W.findIn K (.ref C) "in_boats" = some (some (.ref f_State_in_boats))) (i_State_in_boats : PySem.W.isFn K (.ref f_State_in_boats) = true) (l_State_in_boats : K.lookup f_State_in_boats = some ⟨oc_State_in_boats, od_State_in_boats, .func (PySem.W.fnOf "in_boats" "State.in_boats" (defArgs s_State_in_boats) (defBody s_State_in_boats) (defScope s_State_in_boats) .none kV_State_in_boats dc_State_in_boats pm_State_in_boats an_State_in_boats cd_State_in_boats ct_State_in_boats), sl_State_in_boats⟩) (c_State_in_boats : PySem.W.codeIn K cd_State_in_boats "State.in_boats" = true) (k_State_in_boats : PySem.W.keepIn K (.ref f_State_in_boats) = true) (a_State_free_on_ship : PySem.W.findIn K (.ref C) "free_on_ship" = some (some (.ref f_State_free_on_ship))) (i_State_free_on_ship : PySem.W.isFn K (.ref f_State_free_on_ship) = true) (l_State_free_on_ship : K.lookup f_State_free_on_ship = some ⟨oc_State_free_on_ship, od_State_free_on_ship, .func (PySem.W.fnOf "free_on_ship" "State.free_on_ship" (defArgs s_State_free_on_ship) (defBody s_State_free_on_ship) (defScope s_State_free_on_ship) .none kV_State_free_on_ship dc_State_free_on_ship pm_State_free_on_ship an_State_free_on_ship cd_State_free_on_ship ct_State_free_on_ship), sl_State_free_on_ship⟩) (c_State_free_on_ship : PySem.W.codeIn K cd_State_free_on_ship "State.free_on_ship" = true) (k_State_free_on_ship : PySem.W.keepIn K (.ref f_State_free_on_ship) = true) (a_State_twin : PySem.W.findIn K (.ref C) "twin" = some (some (.ref f_State_twin))) (i_State_twin : PySem.W.isFn K (.ref f_State_twin) = true) (l_State_twin : K.lookup f_State_twin = some ⟨oc_State_twin, od_State_twin, .func (PySem.W.fnOf "twin" "State.twin" (defArgs s_State_twin) (defBody s_State_twin) (defScope s_State_twin) .none kV_State_twin dc_State_twin pm_State_twin an_State_twin cd_State_twin ct_State_twin), sl_State_twin⟩) (c_State_twin : PySem.W.codeIn K cd_State_twin "State.twin" = true) (k_State_twin : PySem.W.keepIn K (.ref f_State_twin) = true) (n_on_ship : PySem.W.findIn K (.ref C) "on_ship" = some none) (n_on_shore : PySem.W.findIn K (.ref C) "on_shore" = some none) (n_sail : PySem.W.findIn K (.ref C) "sail" = some none) (n_minute : PySem.W.findIn K (.ref C) "minute" = some none) (n_swell : PySem.W.findIn K (.ref C) "swell" = some none) (n_boats : PySem.W.findIn K (.ref C) "boats" = some none) (n_groups : PySem.W.findIn K (.ref C) "groups" = some none) (n_times_gone : PySem.W.findIn K (.ref C) "times_gone" = some none) (n_tickets_given : PySem.W.findIn K (.ref C) "tickets_given" = some none)
    (pg : PySem.W.plainGet K C Str.empty = true) (hd : PySem.W.hasDictIn K C = true) (po : PySem.W.plainOver K C = true) (sa : PySem.W.findIn K (.ref C) "__setattr__" = some (some (.builtin "object.__setattr__"))) (mk : PySem.W.makesIn K C = true) (kc : PySem.W.keepIn K (.ref C) = true) :
    ∃ (C : Addr) (f_State_init : Addr) (d_State_init : FuncData) (f_State_has_boat : Addr) (d_State_has_boat : FuncData) (f_State_may_go : Addr) (d_State_may_go : FuncData) (f_State_waiting : Addr) (d_State_waiting : FuncData) (f_State_in_boats : Addr) (d_State_in_boats : FuncData) (f_State_free_on_ship : Addr) (d_State_free_on_ship : FuncData) (f_State_twin : Addr) (d_State_twin : FuncData), Cls K C ∧ mg "State" = some (.ref C) ∧ Mk K C f_State_init ∧ NoAttr K C "on_ship" ∧ NoAttr K C "on_shore" ∧ NoAttr K C "sail" ∧ NoAttr K C "minute" ∧ NoAttr K C "swell" ∧ NoAttr K C "boats" ∧ NoAttr K C "groups" ∧ NoAttr K C "times_gone" ∧ NoAttr K C "tickets_given" ∧ Fun K "__init__" "State.__init__" s_State_init f_State_init d_State_init ∧ Fun K "has_boat" "State.has_boat" s_State_has_boat f_State_has_boat d_State_has_boat ∧ Meth K C "has_boat" f_State_has_boat ∧ Fun K "may_go" "State.may_go" s_State_may_go f_State_may_go d_State_may_go ∧ Meth K C "may_go" f_State_may_go ∧ Fun K "waiting" "State.waiting" s_State_waiting f_State_waiting d_State_waiting ∧ Meth K C "waiting" f_State_waiting ∧ Fun K "in_boats" "State.in_boats" s_State_in_boats f_State_in_boats d_State_in_boats ∧ Meth K C "in_boats" f_State_in_boats ∧ Fun K "free_on_ship" "State.free_on_ship" s_State_free_on_ship f_State_free_on_ship d_State_free_on_ship ∧ Meth K C "free_on_ship" f_State_free_on_ship ∧ Fun K "twin" "State.twin" s_State_twin f_State_twin d_State_twin ∧ Meth K C "twin" f_State_twin :=
  ⟨C, f_State_init, _, f_State_has_boat, _, f_State_may_go, _, f_State_waiting, _, f_State_in_boats, _, f_State_free_on_ship, _, f_State_twin, _, ⟨pg, hd, po, sa⟩, PySem.W.mg_of X G aC, ⟨mk, a_State_init, i_State_init, kc⟩, n_on_ship, n_on_shore, n_sail, n_minute, n_swell, n_boats, n_groups, n_times_gone, n_tickets_given, fun_mk (st := s_State_init) l_State_init c_State_init k_State_init, fun_mk (st := s_State_has_boat) l_State_has_boat c_State_has_boat k_State_has_boat, ⟨a_State_has_boat, i_State_has_boat, k_State_has_boat⟩, fun_mk (st := s_State_may_go) l_State_may_go c_State_may_go k_State_may_go, ⟨a_State_may_go, i_State_may_go, k_State_may_go⟩, fun_mk (st := s_State_waiting) l_State_waiting c_State_waiting k_State_waiting, ⟨a_State_waiting, i_State_waiting, k_State_waiting⟩, fun_mk (st := s_State_in_boats) l_State_in_boats c_State_in_boats k_State_in_boats, ⟨a_State_in_boats, i_State_in_boats, k_State_in_boats⟩, fun_mk (st := s_State_free_on_ship) l_State_free_on_ship c_State_free_on_ship k_State_free_on_ship, ⟨a_State_free_on_ship, i_State_free_on_ship, k_State_free_on_ship⟩, fun_mk (st := s_State_twin) l_State_twin c_State_twin k_State_twin, ⟨a_State_twin, i_State_twin, k_State_twin⟩⟩
theorem cls_Changes_mk (X : K.In h) (G : h.Ns mainGlobals mg) {C : Addr} {f_Changes_init : Addr} {oc_Changes_init : Value} {od_Changes_init an_Changes_init : Option Addr} {sl_Changes_init : Array (Option Value)} {kV_Changes_init dc_Changes_init pm_Changes_init cd_Changes_init ct_Changes_init : Value} {f_Changes_keep : Addr} {oc_Changes_keep : Value} {od_Changes_keep an_Changes_keep : Option Addr} {sl_Changes_keep : Array (Option Value)} {kV_Changes_keep dc_Changes_keep pm_Changes_keep cd_Changes_keep ct_Changes_keep : Value} {f_Changes_take_back : Addr} {oc_Changes_take_back : Value} {od_Changes_take_back an_Changes_take_back : Option Addr} {sl_Changes_take_back : Array (Option Value)} {kV_Changes_take_back dc_Changes_take_back pm_Changes_take_back cd_Changes_take_back ct_Changes_take_back : Value} {f_Changes_do_again : Addr} {oc_Changes_do_again : Value} {od_Changes_do_again an_Changes_do_again : Option Addr} {sl_Changes_do_again : Array (Option Value)} {kV_Changes_do_again dc_Changes_do_again pm_Changes_do_again cd_Changes_do_again ct_Changes_do_again : Value} (aC : PySem.W.nsIn K mainGlobals "Changes" = some (some (.ref C))) (a_Changes_init : PySem.W.findIn K (.ref C) "__init__" = some (some (.ref f_Changes_init))) (i_Changes_init : PySem.W.isFn K (.ref f_Changes_init) = true) (l_Changes_init : K.lookup f_Changes_init = some ⟨oc_Changes_init, od_Changes_init, .func (PySem.W.fnOf "__init__" "Changes.__init__" (defArgs s_Changes_init) (defBody s_Changes_init) (defScope s_Changes_init) .none kV_Changes_init dc_Changes_init pm_Changes_init an_Changes_init cd_Changes_init ct_Changes_init), sl_Changes_init⟩) (c_Changes_init : PySem.W.codeIn K cd_Changes_init "Changes.__init__" = true) (k_Changes_init : PySem.W.keepIn K (.ref f_Changes_init) = true) (a_Changes_keep : PySem.W.findIn K (.ref C) "keep" = some (some (.ref f_Changes_keep))) (i_Changes_keep : PySem.W.isFn K (.ref f_Changes_keep) = true) (l_Changes_keep : K.lookup f_Changes_keep = some ⟨oc_Changes_keep, od_Changes_keep, .func (PySem.W.fnOf "keep" "Changes.keep" (defArgs s_Changes_keep) (defBody s_Changes_keep) (defScope s_Changes_keep) .none kV_Changes_keep dc_Changes_keep pm_Changes_keep an_Changes_keep cd_Changes_keep ct_Changes_keep), sl_Changes_keep⟩) (c_Changes_keep : PySem.W.codeIn K cd_Changes_keep "Changes.keep" = true) (k_Changes_keep : PySem.W.keepIn K (.ref f_Changes_keep) = true) (a_Changes_take_back : PySem.W.findIn K (.ref C) "take_back" = some (some (.ref f_Changes_take_back))) (i_Changes_take_back : PySem.W.isFn K (.ref f_Changes_take_back) = true) (l_Changes_take_back : K.lookup f_Changes_take_back = some ⟨oc_Changes_take_back, od_Changes_take_back, .func (PySem.W.fnOf "take_back" "Changes.take_back" (defArgs s_Changes_take_back) (defBody s_Changes_take_back) (defScope s_Changes_take_back) .none kV_Changes_take_back dc_Changes_take_back pm_Changes_take_back an_Changes_take_back cd_Changes_take_back ct_Changes_take_back), sl_Changes_take_back⟩) (c_Changes_take_back : PySem.W.codeIn K cd_Changes_take_back "Changes.take_back" = true) (k_Changes_take_back : PySem.W.keepIn K (.ref f_Changes_take_back) = true) (a_Changes_do_again : PySem.W.findIn K (.ref C) "do_again" = some (some (.ref f_Changes_do_again))) (i_Changes_do_again : PySem.W.isFn K (.ref f_Changes_do_again) = true) (l_Changes_do_again : K.lookup f_Changes_do_again = some ⟨oc_Changes_do_again, od_Changes_do_again, .func (PySem.W.fnOf "do_again" "Changes.do_again" (defArgs s_Changes_do_again) (defBody s_Changes_do_again) (defScope s_Changes_do_again) .none kV_Changes_do_again dc_Changes_do_again pm_Changes_do_again an_Changes_do_again cd_Changes_do_again ct_Changes_do_again), sl_Changes_do_again⟩) (c_Changes_do_again : PySem.W.codeIn K cd_Changes_do_again "Changes.do_again" = true) (k_Changes_do_again : PySem.W.keepIn K (.ref f_Changes_do_again) = true) (n_before : PySem.W.findIn K (.ref C) "before" = some none) (n_undone : PySem.W.findIn K (.ref C) "undone" = some none)
    (pg : PySem.W.plainGet K C Str.empty = true) (hd : PySem.W.hasDictIn K C = true) (po : PySem.W.plainOver K C = true) (sa : PySem.W.findIn K (.ref C) "__setattr__" = some (some (.builtin "object.__setattr__"))) (mk : PySem.W.makesIn K C = true) (kc : PySem.W.keepIn K (.ref C) = true) :
    ∃ (C : Addr) (f_Changes_init : Addr) (d_Changes_init : FuncData) (f_Changes_keep : Addr) (d_Changes_keep : FuncData) (f_Changes_take_back : Addr) (d_Changes_take_back : FuncData) (f_Changes_do_again : Addr) (d_Changes_do_again : FuncData), Cls K C ∧ mg "Changes" = some (.ref C) ∧ Mk K C f_Changes_init ∧ NoAttr K C "before" ∧ NoAttr K C "undone" ∧ Fun K "__init__" "Changes.__init__" s_Changes_init f_Changes_init d_Changes_init ∧ Fun K "keep" "Changes.keep" s_Changes_keep f_Changes_keep d_Changes_keep ∧ Meth K C "keep" f_Changes_keep ∧ Fun K "take_back" "Changes.take_back" s_Changes_take_back f_Changes_take_back d_Changes_take_back ∧ Meth K C "take_back" f_Changes_take_back ∧ Fun K "do_again" "Changes.do_again" s_Changes_do_again f_Changes_do_again d_Changes_do_again ∧ Meth K C "do_again" f_Changes_do_again :=
  ⟨C, f_Changes_init, _, f_Changes_keep, _, f_Changes_take_back, _, f_Changes_do_again, _, ⟨pg, hd, po, sa⟩, PySem.W.mg_of X G aC, ⟨mk, a_Changes_init, i_Changes_init, kc⟩, n_before, n_undone, fun_mk (st := s_Changes_init) l_Changes_init c_Changes_init k_Changes_init, fun_mk (st := s_Changes_keep) l_Changes_keep c_Changes_keep k_Changes_keep, ⟨a_Changes_keep, i_Changes_keep, k_Changes_keep⟩, fun_mk (st := s_Changes_take_back) l_Changes_take_back c_Changes_take_back k_Changes_take_back, ⟨a_Changes_take_back, i_Changes_take_back, k_Changes_take_back⟩, fun_mk (st := s_Changes_do_again) l_Changes_do_again c_Changes_do_again k_Changes_do_again, ⟨a_Changes_do_again, i_Changes_do_again, k_Changes_do_again⟩⟩
theorem cls_Ship_mk (X : K.In h) (G : h.Ns mainGlobals mg) {C : Addr} {f_Ship_init : Addr} {oc_Ship_init : Value} {od_Ship_init an_Ship_init : Option Addr} {sl_Ship_init : Array (Option Value)} {kV_Ship_init dc_Ship_init pm_Ship_init cd_Ship_init ct_Ship_init : Value} {f_Ship_answer : Addr} {oc_Ship_answer : Value} {od_Ship_answer an_Ship_answer : Option Addr} {sl_Ship_answer : Array (Option Value)} {kV_Ship_answer dc_Ship_answer pm_Ship_answer cd_Ship_answer ct_Ship_answer : Value} {f_Ship_begin : Addr} {oc_Ship_begin : Value} {od_Ship_begin an_Ship_begin : Option Addr} {sl_Ship_begin : Array (Option Value)} {kV_Ship_begin dc_Ship_begin pm_Ship_begin cd_Ship_begin ct_Ship_begin : Value} {f_Ship_change : Addr} {oc_Ship_change : Value} {od_Ship_change an_Ship_change : Option Addr} {sl_Ship_change : Array (Option Value)} {kV_Ship_change dc_Ship_change pm_Ship_change cd_Ship_change ct_Ship_change : Value} {f_Ship_take_back : Addr} {oc_Ship_take_back : Value} {od_Ship_take_back an_Ship_take_back : Option Addr} {sl_Ship_take_back : Array (Option Value)} {kV_Ship_take_back dc_Ship_take_back pm_Ship_take_back cd_Ship_take_back ct_Ship_take_back : Value} {f_Ship_do_again : Addr} {oc_Ship_do_again : Value} {od_Ship_do_again an_Ship_do_again : Option Addr} {sl_Ship_do_again : Array (Option Value)} {kV_Ship_do_again dc_Ship_do_again pm_Ship_do_again cd_Ship_do_again ct_Ship_do_again : Value} (aC : PySem.W.nsIn K mainGlobals "Ship" = some (some (.ref C))) (a_Ship_init : PySem.W.findIn K (.ref C) "__init__" = some (some (.ref f_Ship_init))) (i_Ship_init : PySem.W.isFn K (.ref f_Ship_init) = true) (l_Ship_init : K.lookup f_Ship_init = some ⟨oc_Ship_init, od_Ship_init, .func (PySem.W.fnOf "__init__" "Ship.__init__" (defArgs s_Ship_init) (defBody s_Ship_init) (defScope s_Ship_init) .none kV_Ship_init dc_Ship_init pm_Ship_init an_Ship_init cd_Ship_init ct_Ship_init), sl_Ship_init⟩) (c_Ship_init : PySem.W.codeIn K cd_Ship_init "Ship.__init__" = true) (k_Ship_init : PySem.W.keepIn K (.ref f_Ship_init) = true) (a_Ship_answer : PySem.W.findIn K (.ref C) "answer" = some (some (.ref f_Ship_answer))) (i_Ship_answer : PySem.W.isFn K (.ref f_Ship_answer) = true) (l_Ship_answer : K.lookup f_Ship_answer = some ⟨oc_Ship_answer, od_Ship_answer, .func (PySem.W.fnOf "answer" "Ship.answer" (defArgs s_Ship_answer) (defBody s_Ship_answer) (defScope s_Ship_answer) .none kV_Ship_answer dc_Ship_answer pm_Ship_answer an_Ship_answer cd_Ship_answer ct_Ship_answer), sl_Ship_answer⟩) (c_Ship_answer : PySem.W.codeIn K cd_Ship_answer "Ship.answer" = true) (k_Ship_answer : PySem.W.keepIn K (.ref f_Ship_answer) = true) (a_Ship_begin : PySem.W.findIn K (.ref C) "begin" = some (some (.ref f_Ship_begin))) (i_Ship_begin : PySem.W.isFn K (.ref f_Ship_begin) = true) (l_Ship_begin : K.lookup f_Ship_begin = some ⟨oc_Ship_begin, od_Ship_begin, .func (PySem.W.fnOf "begin" "Ship.begin" (defArgs s_Ship_begin) (defBody s_Ship_begin) (defScope s_Ship_begin) .none kV_Ship_begin dc_Ship_begin pm_Ship_begin an_Ship_begin cd_Ship_begin ct_Ship_begin), sl_Ship_begin⟩) (c_Ship_begin : PySem.W.codeIn K cd_Ship_begin "Ship.begin" = true) (k_Ship_begin : PySem.W.keepIn K (.ref f_Ship_begin) = true) (a_Ship_change : PySem.W.findIn K (.ref C) "change" = some (some (.ref f_Ship_change))) (i_Ship_change : PySem.W.isFn K (.ref f_Ship_change) = true) (l_Ship_change : K.lookup f_Ship_change = some ⟨oc_Ship_change, od_Ship_change, .func (PySem.W.fnOf "change" "Ship.change" (defArgs s_Ship_change) (defBody s_Ship_change) (defScope s_Ship_change) .none kV_Ship_change dc_Ship_change pm_Ship_change an_Ship_change cd_Ship_change ct_Ship_change), sl_Ship_change⟩) (c_Ship_change : PySem.W.codeIn K cd_Ship_change "Ship.change" = true) (k_Ship_change : PySem.W.keepIn K (.ref f_Ship_change) = true) (a_Ship_take_back : PySem.W.findIn K (.ref C) "take_back" = some (some (.ref f_Ship_take_back))) (i_Ship_take_back : PySem.W.isFn K (.ref f_Ship_take_back) = true) (l_Ship_take_back : K.lookup f_Ship_take_back = some ⟨oc_Ship_take_back, od_Ship_take_back, .func (PySem.W.fnOf "take_back" "Ship.take_back" (defArgs s_Ship_take_back) (defBody s_Ship_take_back) (defScope s_Ship_take_back) .none kV_Ship_take_back dc_Ship_take_back pm_Ship_take_back an_Ship_take_back cd_Ship_take_back ct_Ship_take_back), sl_Ship_take_back⟩) (c_Ship_take_back : PySem.W.codeIn K cd_Ship_take_back "Ship.take_back" = true) (k_Ship_take_back : PySem.W.keepIn K (.ref f_Ship_take_back) = true) (a_Ship_do_again : PySem.W.findIn K (.ref C) "do_again" = some (some (.ref f_Ship_do_again))) (i_Ship_do_again : PySem.W.isFn K (.ref f_Ship_do_again) = true) (l_Ship_do_again : K.lookup f_Ship_do_again = some ⟨oc_Ship_do_again, od_Ship_do_again, .func (PySem.W.fnOf "do_again" "Ship.do_again" (defArgs s_Ship_do_again) (defBody s_Ship_do_again) (defScope s_Ship_do_again) .none kV_Ship_do_again dc_Ship_do_again pm_Ship_do_again an_Ship_do_again cd_Ship_do_again ct_Ship_do_again), sl_Ship_do_again⟩) (c_Ship_do_again : PySem.W.codeIn K cd_Ship_do_again "Ship.do_again" = true) (k_Ship_do_again : PySem.W.keepIn K (.ref f_Ship_do_again) = true) (n_state : PySem.W.findIn K (.ref C) "state" = some none) (n_changes : PySem.W.findIn K (.ref C) "changes" = some none)
    (pg : PySem.W.plainGet K C Str.empty = true) (hd : PySem.W.hasDictIn K C = true) (po : PySem.W.plainOver K C = true) (sa : PySem.W.findIn K (.ref C) "__setattr__" = some (some (.builtin "object.__setattr__"))) (mk : PySem.W.makesIn K C = true) (kc : PySem.W.keepIn K (.ref C) = true) :
    ∃ (C : Addr) (f_Ship_init : Addr) (d_Ship_init : FuncData) (f_Ship_answer : Addr) (d_Ship_answer : FuncData) (f_Ship_begin : Addr) (d_Ship_begin : FuncData) (f_Ship_change : Addr) (d_Ship_change : FuncData) (f_Ship_take_back : Addr) (d_Ship_take_back : FuncData) (f_Ship_do_again : Addr) (d_Ship_do_again : FuncData), Cls K C ∧ mg "Ship" = some (.ref C) ∧ Mk K C f_Ship_init ∧ NoAttr K C "state" ∧ NoAttr K C "changes" ∧ Fun K "__init__" "Ship.__init__" s_Ship_init f_Ship_init d_Ship_init ∧ Fun K "answer" "Ship.answer" s_Ship_answer f_Ship_answer d_Ship_answer ∧ Meth K C "answer" f_Ship_answer ∧ Fun K "begin" "Ship.begin" s_Ship_begin f_Ship_begin d_Ship_begin ∧ Meth K C "begin" f_Ship_begin ∧ Fun K "change" "Ship.change" s_Ship_change f_Ship_change d_Ship_change ∧ Meth K C "change" f_Ship_change ∧ Fun K "take_back" "Ship.take_back" s_Ship_take_back f_Ship_take_back d_Ship_take_back ∧ Meth K C "take_back" f_Ship_take_back ∧ Fun K "do_again" "Ship.do_again" s_Ship_do_again f_Ship_do_again d_Ship_do_again ∧ Meth K C "do_again" f_Ship_do_again :=
  ⟨C, f_Ship_init, _, f_Ship_answer, _, f_Ship_begin, _, f_Ship_change, _, f_Ship_take_back, _, f_Ship_do_again, _, ⟨pg, hd, po, sa⟩, PySem.W.mg_of X G aC, ⟨mk, a_Ship_init, i_Ship_init, kc⟩, n_state, n_changes, fun_mk (st := s_Ship_init) l_Ship_init c_Ship_init k_Ship_init, fun_mk (st := s_Ship_answer) l_Ship_answer c_Ship_answer k_Ship_answer, ⟨a_Ship_answer, i_Ship_answer, k_Ship_answer⟩, fun_mk (st := s_Ship_begin) l_Ship_begin c_Ship_begin k_Ship_begin, ⟨a_Ship_begin, i_Ship_begin, k_Ship_begin⟩, fun_mk (st := s_Ship_change) l_Ship_change c_Ship_change k_Ship_change, ⟨a_Ship_change, i_Ship_change, k_Ship_change⟩, fun_mk (st := s_Ship_take_back) l_Ship_take_back c_Ship_take_back k_Ship_take_back, ⟨a_Ship_take_back, i_Ship_take_back, k_Ship_take_back⟩, fun_mk (st := s_Ship_do_again) l_Ship_do_again c_Ship_do_again k_Ship_do_again, ⟨a_Ship_do_again, i_Ship_do_again, k_Ship_do_again⟩⟩
theorem txt_K {A : Ad} (X : K.In h) (t : Txt K mg A) : Txt K mg A := t
theorem bt_answers {f : Addr} {fd : FuncData} (F : Fun K "answers" "answers" s_answers f fd) : ∀ (s : Shared) (us : List Value), us.length = P_answers.length → BindsTo s fd ⟨us, []⟩ (P_answers.zip us) := by
  obtain ⟨oc, od, kV, doc, pm, an, cdv, ct, osl, rfl, lk, hcd⟩ := F.ex
  exact fun s us hl => match us, hl with | [_], _ => .of_eq rfl
end
end Bts
theorem PySem.W.Fast.tw1668494299900744950 : True := trivial
theorem PySem.W.Fast.tw2848309910484491550 : True := trivial
theorem PySem.W.Fast.tw13715249186116530479 : True := trivial
theorem PySem.W.Fast.tw3020614826104068330 : True := trivial
theorem PySem.W.Fast.tw2224456622494414588 : True := trivial
theorem PySem.W.Fast.tw16663862291328947672 : True := trivial
theorem PySem.W.Fast.tw18124904735517250209 : True := trivial
theorem PySem.W.Fast.tw5319170775904597811 : True := trivial
theorem PySem.W.Fast.tw5860428919144465014 : True := trivial
theorem PySem.W.Fast.tw1931521905549602400 : True := trivial
theorem PySem.W.Fast.tw17563904703392476084 : True := trivial
theorem PySem.W.Fast.tw5977753012537681186 : True := trivial
theorem PySem.W.Fast.tw8640305578033099138 : True := trivial
theorem PySem.W.Fast.tw12945899820662289482 : True := trivial
theorem PySem.W.Fast.tw14448925613995020543 : True := trivial
theorem PySem.W.Fast.tw16810990942069513885 : True := trivial
theorem PySem.W.Fast.tw476451347510366351 : True := trivial
theorem PySem.W.Fast.tw16943451258426175642 : True := trivial
theorem PySem.W.Fast.tw11085265052925006521 : True := trivial
theorem PySem.W.Fast.tw17971054298170605524 : True := trivial
theorem PySem.W.Fast.tw6680910291250512980 : True := trivial
theorem PySem.W.Fast.tw4117711821347051833 : True := trivial
theorem PySem.W.Fast.tw10659813960539471070 : True := trivial
theorem PySem.W.Fast.tw1802777985061574925 : True := trivial
theorem PySem.W.Fast.tw9144749906944101914 : True := trivial
theorem PySem.W.Fast.tw7450496853715188173 : True := trivial
theorem PySem.W.Fast.tw1283499287835939716 : True := trivial
theorem PySem.W.Fast.tw7875335106278810426 : True := trivial
theorem PySem.W.Fast.tw5520873668860907157 : True := trivial
theorem PySem.W.Fast.tw14821976106481373120 : True := trivial
theorem PySem.W.Fast.tw7624802650937902327 : True := trivial
theorem PySem.W.Fast.tw7477496472573707383 : True := trivial
theorem PySem.W.Fast.tw7511535383946877066 : True := trivial
theorem PySem.W.Fast.tw12413984308537593433 : True := trivial
theorem PySem.W.Fast.tw14155485470883352015 : True := trivial
theorem PySem.W.Fast.tw17636705270833026853 : True := trivial
theorem PySem.W.Fast.tw2198568923681993673 : True := trivial
theorem PySem.W.Fast.tw11868057825199684197 : True := trivial
theorem PySem.W.Fast.tw6924506746782625347 : True := trivial
theorem PySem.W.Fast.tw2101661822259901356 : True := trivial
theorem PySem.W.Fast.tw86068894582086551 : True := trivial
theorem PySem.W.Fast.tw14092055793223946838 : True := trivial
theorem PySem.W.Fast.tw11774179941974920027 : True := trivial
theorem PySem.W.Fast.tw11057594000830163687 : True := trivial
theorem PySem.W.Fast.tw4784088949470089448 : True := trivial
theorem PySem.W.Fast.tw14965034282413174632 : True := trivial
theorem PySem.W.Fast.tw8478338268516706330 : True := trivial
theorem PySem.W.Fast.tw2954876294756980170 : True := trivial
theorem PySem.W.Fast.tw14771438795703940258 : True := trivial
theorem PySem.W.Fast.tw143947173024038585 : True := trivial
theorem PySem.W.Fast.tw3696892065109013585 : True := trivial
theorem PySem.W.Fast.tw14372102711848113611 : True := trivial
theorem PySem.W.Fast.tw17600267649241643143 : True := trivial
theorem PySem.W.Fast.tw3579925665266395305 : True := trivial
theorem PySem.W.Fast.tw9738283021745739836 : True := trivial
theorem PySem.W.Fast.tw15253340951893170651 : True := trivial
theorem PySem.W.Fast.tw12077448163563803019 : True := trivial
theorem PySem.W.Fast.tw18375158823706444432 : True := trivial
theorem PySem.W.Fast.tw9930583401987480810 : True := trivial
theorem PySem.W.Fast.tw6345162381270374706 : True := trivial
theorem PySem.W.Fast.tw11893890852037627170 : True := trivial
theorem PySem.W.Fast.tw7527219424851360577 : True := trivial
theorem PySem.W.Fast.tw14098480873603289834 : True := trivial
theorem PySem.W.Fast.tw13176663073211466703 : True := trivial
theorem PySem.W.Fast.tw16451297804024431937 : True := trivial
theorem PySem.W.Fast.tw11265321468116624178 : True := trivial
theorem PySem.W.Fast.tw14576363564559204660 : True := trivial
theorem PySem.W.Fast.tw13980685474308975215 : True := trivial
theorem PySem.W.Fast.tw16895230049201778518 : True := trivial
theorem PySem.W.Fast.tw17889958429318019093 : True := trivial
theorem PySem.W.Fast.tw14150333349554265908 : True := trivial
theorem PySem.W.Fast.tw3590568981539175571 : True := trivial
theorem PySem.W.Fast.tw9639576737804659639 : True := trivial
theorem PySem.W.Fast.tw16608980169788238130 : True := trivial
theorem PySem.W.Fast.tw6420216676518622736 : True := trivial
theorem PySem.W.Fast.tw14590555255668309208 : True := trivial
theorem PySem.W.Fast.tw10659482353359039241 : True := trivial
theorem PySem.W.Fast.tw10417089970726543649 : True := trivial
theorem PySem.W.Fast.tw7086681054933205602 : True := trivial
theorem PySem.W.Fast.tw12919171003690524866 : True := trivial
theorem PySem.W.Fast.tw15700041021165391009 : True := trivial
theorem PySem.W.Fast.tw15907861011835006132 : True := trivial
theorem PySem.W.Fast.tw6922526973689488947 : True := trivial
theorem PySem.W.Fast.tw17418536131319301919 : True := trivial
theorem PySem.W.Fast.tw12375473785723692579 : True := trivial
theorem PySem.W.Fast.tw11067266987080128071 : True := trivial
theorem PySem.W.Fast.tw13172222142572497667 : True := trivial
theorem PySem.W.Fast.tw3918700745736556251 : True := trivial
theorem PySem.W.Fast.tw15977244253249521100 : True := trivial
theorem PySem.W.Fast.tw15131049700040204435 : True := trivial
theorem PySem.W.Fast.tw2538011667820551443 : True := trivial
theorem PySem.W.Fast.tw15291268369610197858 : True := trivial
theorem PySem.W.Fast.tw11554581292226605319 : True := trivial
theorem PySem.W.Fast.tw3700913758546602562 : True := trivial
theorem PySem.W.Fast.tw5240132604219606667 : True := trivial
theorem PySem.W.Fast.tw11266690243003806081 : True := trivial
theorem PySem.W.Fast.tw2008549130593967115 : True := trivial
theorem PySem.W.Fast.tw656510563160031296 : True := trivial
theorem PySem.W.Fast.tw9910112513413747074 : True := trivial
theorem PySem.W.Fast.tw6681874288977291670 : True := trivial
theorem PySem.W.Fast.tw13202815167506287446 : True := trivial
theorem PySem.W.Fast.tw12362486038786426993 : True := trivial
theorem PySem.W.Fast.tw6195299474773860706 : True := trivial
theorem PySem.W.Fast.tw8221620757292609436 : True := trivial
theorem PySem.W.Fast.tw549276846718898931 : True := trivial
theorem PySem.W.Fast.tw17908277047222067544 : True := trivial
theorem PySem.W.Fast.tw13478522639546597399 : True := trivial
theorem PySem.W.Fast.tw12584441771936809747 : True := trivial
theorem PySem.W.Fast.tw8732750183258245059 : True := trivial
theorem PySem.W.Fast.tw12493330441793671758 : True := trivial
theorem PySem.W.Fast.tw14643081765803582960 : True := trivial
theorem PySem.W.Fast.tw4233630293704320251 : True := trivial
theorem PySem.W.Fast.tw3683493796060845689 : True := trivial
theorem PySem.W.Fast.tw7678939405397361662 : True := trivial
theorem PySem.W.Fast.tw12631536115712913867 : True := trivial
theorem PySem.W.Fast.tw5749646249335781698 : True := trivial
theorem PySem.W.Fast.tw13929337709613033745 : True := trivial
theorem PySem.W.Fast.tw12974439067276414657 : True := trivial
theorem PySem.W.Fast.tw17607188786377305838 : True := trivial
theorem PySem.W.Fast.tw2105986358802042519 : True := trivial
theorem PySem.W.Fast.tw6352219838096795415 : True := trivial
theorem PySem.W.Fast.tw17701230118729358794 : True := trivial
theorem PySem.W.Fast.tw9627721648964238806 : True := trivial
theorem PySem.W.Fast.tw14966019693067850386 : True := trivial
theorem PySem.W.Fast.tw9113681415803182466 : True := trivial
theorem PySem.W.Fast.tw12607417032844846876 : True := trivial
theorem PySem.W.Fast.tw1990705732591988598 : True := trivial
theorem PySem.W.Fast.tw10673930136261268064 : True := trivial
theorem PySem.W.Fast.tw10240695223214760220 : True := trivial
theorem PySem.W.Fast.tw6584954250749411739 : True := trivial
theorem PySem.W.Fast.tw14682725010171348511 : True := trivial
theorem PySem.W.Fast.tw17452882879920296268 : True := trivial
theorem PySem.W.Fast.tw10236829769664660792 : True := trivial
theorem PySem.W.Fast.tw6538345297288830044 : True := trivial
theorem PySem.W.Fast.tw922555961304225850 : True := trivial
theorem PySem.W.Fast.tw18424341406060483482 : True := trivial
theorem PySem.W.Fast.tw6598983593276094223 : True := trivial
theorem PySem.W.Fast.tw950273531205251873 : True := trivial
theorem PySem.W.Fast.tw3471362009270949058 : True := trivial
theorem PySem.W.Fast.tw5138598691159417360 : True := trivial
theorem PySem.W.Fast.tw9440138870268209710 : True := trivial
theorem PySem.W.Fast.tw9561487309626343159 : True := trivial
theorem PySem.W.Fast.tw14130462803885861997 : True := trivial
theorem PySem.W.Fast.tw10851905570684892855 : True := trivial
theorem PySem.W.Fast.tw9192177918445083947 : True := trivial
theorem PySem.W.Fast.tw9813568644967486829 : True := trivial
theorem PySem.W.Fast.tw17398227087421183178 : True := trivial
theorem PySem.W.Fast.tw11478274195168156906 : True := trivial
theorem PySem.W.Fast.tw8369093113069528909 : True := trivial
theorem PySem.W.Fast.tw6891913805728548972 : True := trivial
theorem PySem.W.Fast.tw2609653305549861852 : True := trivial
theorem PySem.W.Fast.tw16168038699560651588 : True := trivial
theorem PySem.W.Fast.tw17274722975026928247 : True := trivial
theorem PySem.W.Fast.tw6366552715010441323 : True := trivial
theorem PySem.W.Fast.tw15441904758386538196 : True := trivial
theorem PySem.W.Fast.tw3985096055968158574 : True := trivial
theorem PySem.W.Fast.tw17219504708558977524 : True := trivial
theorem PySem.W.Fast.tw5194302564737384053 : True := trivial
theorem PySem.W.Fast.tw4342676896401386833 : True := trivial
theorem PySem.W.Fast.tw17764871019156849595 : True := trivial
theorem PySem.W.Fast.tw4241222987250072245 : True := trivial
theorem PySem.W.Fast.tw17697692045185530528 : True := trivial
theorem PySem.W.Fast.tw11422559711306880623 : True := trivial
theorem PySem.W.Fast.tw6947216640882249742 : True := trivial
theorem PySem.W.Fast.tw514953102508235050 : True := trivial
theorem PySem.W.Fast.tw5710405947264351829 : True := trivial
theorem PySem.W.Fast.tw10416833317437006361 : True := trivial
theorem PySem.W.Fast.tw15831283163378400702 : True := trivial
theorem PySem.W.Fast.tw9262218915488887267 : True := trivial
theorem PySem.W.Fast.tw15008253047565340362 : True := trivial
theorem PySem.W.Fast.tw1572987522342773763 : True := trivial
theorem PySem.W.Fast.tw4087593586262885361 : True := trivial
theorem PySem.W.Fast.tw12825243041519820072 : True := trivial
theorem PySem.W.Fast.tw15530856966531236323 : True := trivial
theorem PySem.W.Fast.tw8460341750678338614 : True := trivial
theorem PySem.W.Fast.tw16614205063283478297 : True := trivial
theorem PySem.W.Fast.tw7195952933501667185 : True := trivial
theorem PySem.W.Fast.tw15534634996299881571 : True := trivial
theorem PySem.W.Fast.tw12848879370187669719 : True := trivial
theorem PySem.W.Fast.tw13762776052584661656 : True := trivial
theorem PySem.W.Fast.tw3560168047419884922 : True := trivial
theorem PySem.W.Fast.tw9108031189383806087 : True := trivial
theorem PySem.W.Fast.tw1371173562977087843 : True := trivial
theorem PySem.W.Fast.tw5063088240550739226 : True := trivial
theorem PySem.W.Fast.tw10353997736450240765 : True := trivial
theorem PySem.W.Fast.tw9925632104693665222 : True := trivial
theorem PySem.W.Fast.tw13206011872831762588 : True := trivial
theorem PySem.W.Fast.tw10244266793018048037 : True := trivial
theorem PySem.W.Fast.tw2563463401295874048 : True := trivial
theorem PySem.W.Fast.tw10810611221853494921 : True := trivial
theorem PySem.W.Fast.tw14842252380239965526 : True := trivial
theorem PySem.W.Fast.tw1414161518921055682 : True := trivial
theorem PySem.W.Fast.tw8565135664026904287 : True := trivial
theorem PySem.W.Fast.tw3060609191990253187 : True := trivial
theorem PySem.W.Fast.tw7253442305785044570 : True := trivial
theorem PySem.W.Fast.tw11352680518471491482 : True := trivial
theorem PySem.W.Fast.tw7325168633637822709 : True := trivial
theorem PySem.W.Fast.tw11505418113096142483 : True := trivial
theorem PySem.W.Fast.tw8287890996812625813 : True := trivial
theorem PySem.W.Fast.tw4637086585057904365 : True := trivial
theorem PySem.W.Fast.tw7806186369706169777 : True := trivial
theorem PySem.W.Fast.tw13250238839380845887 : True := trivial
theorem PySem.W.Fast.tw7108212028485974332 : True := trivial
theorem PySem.W.Fast.tw7826213767055969234 : True := trivial
theorem PySem.W.Fast.tw12521170658647086823 : True := trivial
theorem PySem.W.Fast.tw2454984184166074147 : True := trivial
theorem PySem.W.Fast.tw4310996702926173732 : True := trivial
theorem PySem.W.Fast.tw6783396676147033224 : True := trivial
theorem PySem.W.Fast.tw9656765955717547401 : True := trivial
theorem PySem.W.Fast.tw5703361206886749661 : True := trivial
theorem PySem.W.Fast.tw2854689883333910259 : True := trivial
theorem PySem.W.Fast.tw7802888911929274972 : True := trivial
theorem PySem.W.Fast.tw8619137180163470501 : True := trivial
theorem PySem.W.Fast.tw16804929836152608872 : True := trivial
theorem PySem.W.Fast.tw14847229815248517085 : True := trivial
theorem PySem.W.Fast.tw4270503779962979338 : True := trivial
theorem PySem.W.Fast.tw8901094956162474465 : True := trivial
theorem PySem.W.Fast.tw17153015122678849045 : True := trivial
theorem PySem.W.Fast.tw3148867233303281433 : True := trivial
theorem PySem.W.Fast.tw16485002474543074932 : True := trivial
theorem PySem.W.Fast.tw17676851063608271772 : True := trivial
theorem PySem.W.Fast.tw2053414568827883832 : True := trivial
theorem PySem.W.Fast.tw4900182955522237748 : True := trivial
theorem PySem.W.Fast.tw10512583106534743616 : True := trivial
theorem PySem.W.Fast.tw2946974572218143221 : True := trivial
theorem PySem.W.Fast.tw15266898667894030732 : True := trivial
theorem PySem.W.Fast.tw10994491453515129467 : True := trivial
theorem PySem.W.Fast.tw10224500462317624125 : True := trivial
theorem PySem.W.Fast.tw12333945580303457063 : True := trivial
theorem PySem.W.Fast.tw1356852219806642324 : True := trivial
theorem PySem.W.Fast.tw4515838281341431678 : True := trivial
theorem PySem.W.Fast.tw11646036990685126347 : True := trivial
theorem PySem.W.Fast.tw17422715075323430882 : True := trivial
theorem PySem.W.Fast.tw8833206320597199010 : True := trivial
theorem PySem.W.Fast.tw12275862869342146680 : True := trivial
theorem PySem.W.Fast.tw8134121089706785985 : True := trivial
theorem PySem.W.Fast.tw15210580688577676193 : True := trivial
theorem PySem.W.Fast.tw11957367986980166215 : True := trivial
theorem PySem.W.Fast.tw12562745206669560661 : True := trivial
theorem PySem.W.Fast.tw15984248899322307157 : True := trivial
theorem PySem.W.Fast.tw13706119048624088903 : True := trivial
theorem PySem.W.Fast.tw16154684084704270600 : True := trivial
theorem PySem.W.Fast.tw14185949240143483614 : True := trivial
theorem PySem.W.Fast.tw11112605220436225056 : True := trivial
theorem PySem.W.Fast.tw6595759725473619251 : True := trivial
theorem PySem.W.Fast.tw17466503698770683331 : True := trivial
theorem PySem.W.Fast.tw10449586202342642585 : True := trivial
theorem PySem.W.Fast.tw9290674806657868636 : True := trivial
theorem PySem.W.Fast.tw11628943549919087557 : True := trivial
theorem PySem.W.Fast.tw13135417750383427152 : True := trivial
theorem PySem.W.Fast.tw6112463397036628321 : True := trivial
theorem PySem.W.Fast.tw5147926641014183566 : True := trivial
theorem PySem.W.Fast.tw6954622265362593778 : True := trivial
theorem PySem.W.Fast.tw3172935710631922924 : True := trivial
theorem PySem.W.Fast.tw16018063900847857897 : True := trivial
theorem PySem.W.Fast.tw7818676603367500954 : True := trivial
theorem PySem.W.Fast.tw14952768342454470517 : True := trivial
theorem PySem.W.Fast.tw5828401898177948128 : True := trivial
theorem PySem.W.Fast.tw15994502692436194649 : True := trivial
theorem PySem.W.Fast.tw5468532524965137489 : True := trivial
theorem PySem.W.Fast.tw6630683787176777741 : True := trivial
theorem PySem.W.Fast.tw13473013715234611424 : True := trivial
theorem PySem.W.Fast.tw17748046021105945676 : True := trivial
theorem PySem.W.Fast.tw8082265568580725475 : True := trivial
theorem PySem.W.Fast.tw9100853087107233608 : True := trivial
theorem PySem.W.Fast.tw6540588156937292574 : True := trivial
theorem PySem.W.Fast.tw15936511188085999706 : True := trivial
theorem PySem.W.Fast.tw16151287658720950229 : True := trivial
theorem PySem.W.Fast.tw3651550267945418284 : True := trivial
theorem PySem.W.Fast.tw15941566173344769448 : True := trivial
theorem PySem.W.Fast.tw10569960240183805619 : True := trivial
theorem PySem.W.Fast.tw13976614474297238492 : True := trivial
theorem PySem.W.Fast.tw16079100709162133089 : True := trivial
theorem PySem.W.Fast.tw6064371652897347076 : True := trivial
theorem PySem.W.Fast.tw994677230157821483 : True := trivial
theorem PySem.W.Fast.tw5839410827481030692 : True := trivial
theorem PySem.W.Fast.tw16609653794368149180 : True := trivial
theorem PySem.W.Fast.tw11386419880706288796 : True := trivial
theorem PySem.W.Fast.tw4118597713563503379 : True := trivial
theorem PySem.W.Fast.tw16481757743000174330 : True := trivial
theorem PySem.W.Fast.tw15331857317316792048 : True := trivial
theorem PySem.W.Fast.tw17878300381333267340 : True := trivial
theorem PySem.W.Fast.tw3962492574960610014 : True := trivial
theorem PySem.W.Fast.tw4257906728938129792 : True := trivial
theorem PySem.W.Fast.tw3937372799922638924 : True := trivial
theorem PySem.W.Fast.tw2482597977150012819 : True := trivial
theorem PySem.W.Fast.tw4493045833935032491 : True := trivial
theorem PySem.W.Fast.tw6469821807957952989 : True := trivial
theorem PySem.W.Fast.tw14484001138501844316 : True := trivial
theorem PySem.W.Fast.tw3870215170562042724 : True := trivial
theorem PySem.W.Fast.tw14331741243934477013 : True := trivial
theorem PySem.W.Fast.tw3977581074516704577 : True := trivial
theorem PySem.W.Fast.tw3064343149513269505 : True := trivial
theorem PySem.W.Fast.tw6079569694764243791 : True := trivial
theorem PySem.W.Fast.tw1336466406420753427 : True := trivial
theorem PySem.W.Fast.tw9421407406324941270 : True := trivial
theorem PySem.W.Fast.tw1422261204805203900 : True := trivial
theorem PySem.W.Fast.tw15982060471239945436 : True := trivial
theorem PySem.W.Fast.tw4382068695787150475 : True := trivial
theorem PySem.W.Fast.tw1435496669948608327 : True := trivial
theorem PySem.W.Fast.tw5946863819227432151 : True := trivial
theorem PySem.W.Fast.tw10929088135170974071 : True := trivial
theorem PySem.W.Fast.tw6754421264207269761 : True := trivial
theorem PySem.W.Fast.tw13462037369626905767 : True := trivial
theorem PySem.W.Fast.tw12675680768634623826 : True := trivial
theorem PySem.W.Fast.tw15496955181062907348 : True := trivial
theorem PySem.W.Fast.tw13806463305199794489 : True := trivial
theorem PySem.W.Fast.tw13365628521708136110 : True := trivial
theorem PySem.W.Fast.tw17839042104490781008 : True := trivial
theorem PySem.W.Fast.tw18087372691400588287 : True := trivial
theorem PySem.W.Fast.tw3629592208185379730 : True := trivial
theorem PySem.W.Fast.tw13333019996226128855 : True := trivial
theorem PySem.W.Fast.tw12261811142675570325 : True := trivial
theorem PySem.W.Fast.tw13971061881219009580 : True := trivial
theorem PySem.W.Fast.tw1948933756766010726 : True := trivial
theorem PySem.W.Fast.tw10587405193077638528 : True := trivial
theorem PySem.W.Fast.tw18084644657379700922 : True := trivial
theorem PySem.W.Fast.tw1406811942226804605 : True := trivial
theorem PySem.W.Fast.tw497540797394885351 : True := trivial
theorem PySem.W.Fast.tw14467308788338930694 : True := trivial
theorem PySem.W.Fast.tw7897466351496461134 : True := trivial
theorem PySem.W.Fast.tw787417515828134503 : True := trivial
theorem PySem.W.Fast.tw11402687151660600303 : True := trivial
theorem PySem.W.Fast.tw2843730210806551739 : True := trivial
theorem PySem.W.Fast.tw3159105981700083163 : True := trivial
theorem PySem.W.Fast.tw10998876405570837981 : True := trivial
theorem PySem.W.Fast.tw4672049871134055794 : True := trivial
theorem PySem.W.Fast.tw13315027479814719286 : True := trivial
theorem PySem.W.Fast.tw11401778569709801877 : True := trivial
theorem PySem.W.Fast.tw10617187985389136906 : True := trivial
theorem PySem.W.Fast.tw13796777616594377307 : True := trivial
theorem PySem.W.Fast.tw10046537798533100815 : True := trivial
theorem PySem.W.Fast.tw4011955322829747410 : True := trivial
theorem PySem.W.Fast.tw12477078803936221623 : True := trivial
theorem PySem.W.Fast.tw6698016820431711462 : True := trivial
theorem PySem.W.Fast.tw9661164124368542403 : True := trivial
theorem PySem.W.Fast.tw16311001620775401917 : True := trivial
theorem PySem.W.Fast.tw6372039572940080150 : True := trivial
theorem PySem.W.Fast.tw2238414197975202166 : True := trivial
theorem PySem.W.Fast.tw1418230686218392070 : True := trivial
theorem PySem.W.Fast.tw8340817986716391793 : True := trivial
theorem PySem.W.Fast.tw7751082827490486674 : True := trivial
theorem PySem.W.Fast.tw12544058382724758838 : True := trivial
theorem PySem.W.Fast.tw714631370396310734 : True := trivial
theorem PySem.W.Fast.tw3719502900189366033 : True := trivial
theorem PySem.W.Fast.tw17396911667440580589 : True := trivial
theorem PySem.W.Fast.tw9776444019059239101 : True := trivial
theorem PySem.W.Fast.tw3194433967668290875 : True := trivial
theorem PySem.W.Fast.tw7044524261383080302 : True := trivial
theorem PySem.W.Fast.tw6947091876146305490 : True := trivial
theorem PySem.W.Fast.tw118068763301192927 : True := trivial
theorem PySem.W.Fast.tw6566615790311845183 : True := trivial
theorem PySem.W.Fast.tw1466368437813193071 : True := trivial
theorem PySem.W.Fast.tw17014936000013489090 : True := trivial
theorem PySem.W.Fast.tw10576935537661102215 : True := trivial
theorem PySem.W.Fast.tw6459228372109868310 : True := trivial
theorem PySem.W.Fast.tw5736258373752966228 : True := trivial
theorem PySem.W.Fast.tw14696009478679152170 : True := trivial
theorem PySem.W.Fast.tw16018415824036952291 : True := trivial
theorem PySem.W.Fast.tw8131001146617640068 : True := trivial
theorem PySem.W.Fast.tw12299140994211890269 : True := trivial
theorem PySem.W.Fast.tw17460844379366627409 : True := trivial
theorem PySem.W.Fast.tw3338283016536682212 : True := trivial
theorem PySem.W.Fast.tw11527227513961147195 : True := trivial
theorem PySem.W.Fast.tw807852219189455285 : True := trivial
theorem PySem.W.Fast.tw12708762925177671005 : True := trivial
theorem PySem.W.Fast.tw460234882631619364 : True := trivial
theorem PySem.W.Fast.tw13141028132036246785 : True := trivial
theorem PySem.W.Fast.tw3875150208450828047 : True := trivial
theorem PySem.W.Fast.tw3315139863672172009 : True := trivial
theorem PySem.W.Fast.tw18072369767373396463 : True := trivial
theorem PySem.W.Fast.tw15016593485768395183 : True := trivial
theorem PySem.W.Fast.tw12849071721245428598 : True := trivial
theorem PySem.W.Fast.tw12283271527165941023 : True := trivial
theorem PySem.W.Fast.tw1104611129348846055 : True := trivial
theorem PySem.W.Fast.tw664340549594104134 : True := trivial
theorem PySem.W.Fast.tw2784225028010760148 : True := trivial
theorem PySem.W.Fast.tw9254619098901730597 : True := trivial
theorem PySem.W.Fast.tw8906431276397201960 : True := trivial
theorem PySem.W.Fast.tw14350520560663957627 : True := trivial
theorem PySem.W.Fast.tw8712869486128309702 : True := trivial
theorem PySem.W.Fast.tw2933153305568878439 : True := trivial
theorem PySem.W.Fast.tw11093965304742313045 : True := trivial
theorem PySem.W.Fast.tw13068068189551088042 : True := trivial
theorem PySem.W.Fast.tw11944732135956055215 : True := trivial
theorem PySem.W.Fast.tw14746468211346798789 : True := trivial
theorem PySem.W.Fast.tw2127556557075890624 : True := trivial
theorem PySem.W.Fast.tw2366384956444647811 : True := trivial
theorem PySem.W.Fast.tw316209649876333410 : True := trivial
theorem PySem.W.Fast.tw9335335377730612992 : True := trivial
theorem PySem.W.Fast.tw12177979436426953121 : True := trivial
theorem PySem.W.Fast.tw4659538576988236233 : True := trivial
theorem PySem.W.Fast.tw11649672175804148967 : True := trivial
theorem PySem.W.Fast.tw600479647522094732 : True := trivial
theorem PySem.W.Fast.tw17462827957672086000 : True := trivial
theorem PySem.W.Fast.tw2805600809523849726 : True := trivial
theorem PySem.W.Fast.tw213398972374173399 : True := trivial
theorem PySem.W.Fast.tw18198829079658897463 : True := trivial
theorem PySem.W.Fast.tw6262080457183201533 : True := trivial
theorem PySem.W.Fast.tw15231763562288150850 : True := trivial
theorem PySem.W.Fast.tw1734063743347471398 : True := trivial
theorem PySem.W.Fast.tw12519841512085177577 : True := trivial
theorem PySem.W.Fast.tw5940863212600458106 : True := trivial
theorem PySem.W.Fast.tw14197162488629612956 : True := trivial
theorem PySem.W.Fast.tw3170924604996052635 : True := trivial
theorem PySem.W.Fast.tw3834054638565580807 : True := trivial
theorem PySem.W.Fast.tw1436277282975906746 : True := trivial
theorem PySem.W.Fast.tw16043636019347202267 : True := trivial
theorem PySem.W.Fast.tw5277770614444856603 : True := trivial
theorem PySem.W.Fast.tw4210716604772151002 : True := trivial
theorem PySem.W.Fast.tw4714238046226206687 : True := trivial
theorem PySem.W.Fast.tw12634839028631974664 : True := trivial
theorem PySem.W.Fast.tw15885617065171799382 : True := trivial
theorem PySem.W.Fast.tw15960359444063217742 : True := trivial
theorem PySem.W.Fast.tw4010081810497157926 : True := trivial
theorem PySem.W.Fast.tw12025659794300922224 : True := trivial
theorem PySem.W.Fast.tw8799538747260787595 : True := trivial
theorem PySem.W.Fast.tw9877261196130577524 : True := trivial
theorem PySem.W.Fast.tw13869582740093462722 : True := trivial
theorem PySem.W.Fast.tw9982081135771514530 : True := trivial
theorem PySem.W.Fast.tw9964547884790410639 : True := trivial
theorem PySem.W.Fast.tw16836567848792240860 : True := trivial
theorem PySem.W.Fast.tw6804291141366900649 : True := trivial
theorem PySem.W.Fast.tw5668175920560513829 : True := trivial
theorem PySem.W.Fast.tw8274267665476582848 : True := trivial
theorem PySem.W.Fast.tw7316592248866235173 : True := trivial
theorem PySem.W.Fast.tw143853637658572453 : True := trivial
theorem PySem.W.Fast.tw4411597136970357686 : True := trivial
theorem PySem.W.Fast.tw9351276409751569569 : True := trivial
theorem PySem.W.Fast.tw12060712342316932826 : True := trivial
theorem PySem.W.Fast.tw1109980794795731741 : True := trivial
theorem PySem.W.Fast.tw1848535108546913753 : True := trivial
theorem PySem.W.Fast.tw472156108293152306 : True := trivial
theorem PySem.W.Fast.tw10424898896147552608 : True := trivial
theorem PySem.W.Fast.tw12731792691727571493 : True := trivial
theorem PySem.W.Fast.tw14978055189837076291 : True := trivial
theorem PySem.W.Fast.tw18258285240929884906 : True := trivial
theorem PySem.W.Fast.tw1917734657360186773 : True := trivial
theorem PySem.W.Fast.tw593550514154015319 : True := trivial
theorem PySem.W.Fast.tw11119404472334891568 : True := trivial
theorem PySem.W.Fast.tw37033891563399333 : True := trivial
theorem PySem.W.Fast.tw17876454458494683682 : True := trivial
theorem PySem.W.Fast.tw15439779650821134880 : True := trivial
theorem PySem.W.Fast.tw14575397675901194993 : True := trivial
theorem PySem.W.Fast.tw17976019024185105304 : True := trivial
theorem PySem.W.Fast.tw15485407342983778502 : True := trivial
open PySem PySem.W PyProof.Rows
set_option maxRecDepth 100000 in
set_option maxHeartbeats 0 in
theorem PySem.Challenge.cw_boatstoshore_s01_answers_holds : PySem.Challenge.rw_boatstoshore_s01_answers.Holds := by
  w_on; k_headS; (case hw => exact ⟨[.list [.int 0, .int 1, .int 1]], by decide +kernel, by decide +kernel⟩)
  k_fillS
  refine L2.walk_specK (r := PySem.Challenge.rw_boatstoshore_s01_answers) (k := 9) (CX := L2.CX0) (ps := ["calls"]) (sp := Bts.spAns) (by decide +kernel) rfl rfl ⟨rfl, by decide, by decide⟩ (fun w h Y => PySem.W.kIn_of Y) ?F ?S (fun _ _ _ _ z => z)
  case F =>
    intro w mg fa h Y KX G hmg
    have e_Boat := by
      refine' Bts.cls_Boat_mk KX G ?aC ?a_Boat_init ?i_Boat_init ?l_Boat_init ?c_Boat_init ?k_Boat_init ?a_Boat_is_on_its_way ?i_Boat_is_on_its_way ?l_Boat_is_on_its_way ?c_Boat_is_on_its_way ?k_Boat_is_on_its_way ?a_Boat_seats_left ?i_Boat_seats_left ?l_Boat_seats_left ?c_Boat_seats_left ?k_Boat_seats_left ?a_Boat_twin ?i_Boat_twin ?l_Boat_twin ?c_Boat_twin ?k_Boat_twin ?n_seats ?n_way ?n_most_swell ?n_inside ?n_to_shore ?n_minutes_left ?pg ?hd ?po ?sa ?mk ?kc
      (case aC => k_is); (case a_Boat_init => k_is); (case i_Boat_init => k_is); (case l_Boat_init => k_is); (case c_Boat_init => k_is); (case k_Boat_init => k_is); (case a_Boat_is_on_its_way => k_is); (case i_Boat_is_on_its_way => k_is); (case l_Boat_is_on_its_way => k_is); (case c_Boat_is_on_its_way => k_is); (case k_Boat_is_on_its_way => k_is); (case a_Boat_seats_left => k_is); (case i_Boat_seats_left => k_is); (case l_Boat_seats_left => k_is); (case c_Boat_seats_left => k_is); (case k_Boat_seats_left => k_is); (case a_Boat_twin => k_is); (case i_Boat_twin => k_is); (case l_Boat_twin => k_is); (case c_Boat_twin => k_is); (case k_Boat_twin => k_is); (case n_seats => k_is); (case n_way => k_is); (case n_most_swell => k_is); (case n_inside => k_is); (case n_to_shore => k_is); (case n_minutes_left => k_is); (case pg => k_is); (case hd => k_is); (case po => k_is); (case sa => k_is); (case mk => k_is); (case kc => k_is)
    obtain ⟨c_Boat, f_Boat_init, d_Boat_init, f_Boat_is_on_its_way, d_Boat_is_on_its_way, f_Boat_seats_left, d_Boat_seats_left, f_Boat_twin, d_Boat_twin, cl_Boat, g_Boat, mk_Boat, n_Boat_seats, n_Boat_way, n_Boat_most_swell, n_Boat_inside, n_Boat_to_shore, n_Boat_minutes_left, F_Boat_init, F_Boat_is_on_its_way, m_Boat_is_on_its_way, F_Boat_seats_left, m_Boat_seats_left, F_Boat_twin, m_Boat_twin⟩ := e_Boat
    have e_State := by
      refine' Bts.cls_State_mk KX G ?aC ?a_State_init ?i_State_init ?l_State_init ?c_State_init ?k_State_init ?a_State_has_boat ?i_State_has_boat ?l_State_has_boat ?c_State_has_boat ?k_State_has_boat ?a_State_may_go ?i_State_may_go ?l_State_may_go ?c_State_may_go ?k_State_may_go ?a_State_waiting ?i_State_waiting ?l_State_waiting ?c_State_waiting ?k_State_waiting ?a_State_in_boats ?i_State_in_boats ?l_State_in_boats ?c_State_in_boats ?k_State_in_boats ?a_State_free_on_ship ?i_State_free_on_ship ?l_State_free_on_ship ?c_State_free_on_ship ?k_State_free_on_ship ?a_State_twin ?i_State_twin ?l_State_twin ?c_State_twin ?k_State_twin ?n_on_ship ?n_on_shore ?n_sail ?n_minute ?n_swell ?n_boats ?n_groups ?n_times_gone ?n_tickets_given ?pg ?hd ?po ?sa ?mk ?kc
      (case aC => k_is); (case a_State_init => k_is); (case i_State_init => k_is); (case l_State_init => k_is); (case c_State_init => k_is); (case k_State_init => k_is); (case a_State_has_boat => k_is); (case i_State_has_boat => k_is); (case l_State_has_boat => k_is); (case c_State_has_boat => k_is); (case k_State_has_boat => k_is); (case a_State_may_go => k_is); (case i_State_may_go => k_is); (case l_State_may_go => k_is); (case c_State_may_go => k_is); (case k_State_may_go => k_is); (case a_State_waiting => k_is); (case i_State_waiting => k_is); (case l_State_waiting => k_is); (case c_State_waiting => k_is); (case k_State_waiting => k_is); (case a_State_in_boats => k_is); (case i_State_in_boats => k_is); (case l_State_in_boats => k_is); (case c_State_in_boats => k_is); (case k_State_in_boats => k_is); (case a_State_free_on_ship => k_is); (case i_State_free_on_ship => k_is); (case l_State_free_on_ship => k_is); (case c_State_free_on_ship => k_is); (case k_State_free_on_ship => k_is); (case a_State_twin => k_is); (case i_State_twin => k_is); (case l_State_twin => k_is); (case c_State_twin => k_is); (case k_State_twin => k_is); (case n_on_ship => k_is); (case n_on_shore => k_is); (case n_sail => k_is); (case n_minute => k_is); (case n_swell => k_is); (case n_boats => k_is); (case n_groups => k_is); (case n_times_gone => k_is); (case n_tickets_given => k_is); (case pg => k_is); (case hd => k_is); (case po => k_is); (case sa => k_is); (case mk => k_is); (case kc => k_is)
    obtain ⟨c_State, f_State_init, d_State_init, f_State_has_boat, d_State_has_boat, f_State_may_go, d_State_may_go, f_State_waiting, d_State_waiting, f_State_in_boats, d_State_in_boats, f_State_free_on_ship, d_State_free_on_ship, f_State_twin, d_State_twin, cl_State, g_State, mk_State, n_State_on_ship, n_State_on_shore, n_State_sail, n_State_minute, n_State_swell, n_State_boats, n_State_groups, n_State_times_gone, n_State_tickets_given, F_State_init, F_State_has_boat, m_State_has_boat, F_State_may_go, m_State_may_go, F_State_waiting, m_State_waiting, F_State_in_boats, m_State_in_boats, F_State_free_on_ship, m_State_free_on_ship, F_State_twin, m_State_twin⟩ := e_State
    have e_Changes := by
      refine' Bts.cls_Changes_mk KX G ?aC ?a_Changes_init ?i_Changes_init ?l_Changes_init ?c_Changes_init ?k_Changes_init ?a_Changes_keep ?i_Changes_keep ?l_Changes_keep ?c_Changes_keep ?k_Changes_keep ?a_Changes_take_back ?i_Changes_take_back ?l_Changes_take_back ?c_Changes_take_back ?k_Changes_take_back ?a_Changes_do_again ?i_Changes_do_again ?l_Changes_do_again ?c_Changes_do_again ?k_Changes_do_again ?n_before ?n_undone ?pg ?hd ?po ?sa ?mk ?kc
      (case aC => k_is); (case a_Changes_init => k_is); (case i_Changes_init => k_is); (case l_Changes_init => k_is); (case c_Changes_init => k_is); (case k_Changes_init => k_is); (case a_Changes_keep => k_is); (case i_Changes_keep => k_is); (case l_Changes_keep => k_is); (case c_Changes_keep => k_is); (case k_Changes_keep => k_is); (case a_Changes_take_back => k_is); (case i_Changes_take_back => k_is); (case l_Changes_take_back => k_is); (case c_Changes_take_back => k_is); (case k_Changes_take_back => k_is); (case a_Changes_do_again => k_is); (case i_Changes_do_again => k_is); (case l_Changes_do_again => k_is); (case c_Changes_do_again => k_is); (case k_Changes_do_again => k_is); (case n_before => k_is); (case n_undone => k_is); (case pg => k_is); (case hd => k_is); (case po => k_is); (case sa => k_is); (case mk => k_is); (case kc => k_is)
    obtain ⟨c_Changes, f_Changes_init, d_Changes_init, f_Changes_keep, d_Changes_keep, f_Changes_take_back, d_Changes_take_back, f_Changes_do_again, d_Changes_do_again, cl_Changes, g_Changes, mk_Changes, n_Changes_before, n_Changes_undone, F_Changes_init, F_Changes_keep, m_Changes_keep, F_Changes_take_back, m_Changes_take_back, F_Changes_do_again, m_Changes_do_again⟩ := e_Changes
    have e_Ship := by
      refine' Bts.cls_Ship_mk KX G ?aC ?a_Ship_init ?i_Ship_init ?l_Ship_init ?c_Ship_init ?k_Ship_init ?a_Ship_answer ?i_Ship_answer ?l_Ship_answer ?c_Ship_answer ?k_Ship_answer ?a_Ship_begin ?i_Ship_begin ?l_Ship_begin ?c_Ship_begin ?k_Ship_begin ?a_Ship_change ?i_Ship_change ?l_Ship_change ?c_Ship_change ?k_Ship_change ?a_Ship_take_back ?i_Ship_take_back ?l_Ship_take_back ?c_Ship_take_back ?k_Ship_take_back ?a_Ship_do_again ?i_Ship_do_again ?l_Ship_do_again ?c_Ship_do_again ?k_Ship_do_again ?n_state ?n_changes ?pg ?hd ?po ?sa ?mk ?kc
      (case aC => k_is); (case a_Ship_init => k_is); (case i_Ship_init => k_is); (case l_Ship_init => k_is); (case c_Ship_init => k_is); (case k_Ship_init => k_is); (case a_Ship_answer => k_is); (case i_Ship_answer => k_is); (case l_Ship_answer => k_is); (case c_Ship_answer => k_is); (case k_Ship_answer => k_is); (case a_Ship_begin => k_is); (case i_Ship_begin => k_is); (case l_Ship_begin => k_is); (case c_Ship_begin => k_is); (case k_Ship_begin => k_is); (case a_Ship_change => k_is); (case i_Ship_change => k_is); (case l_Ship_change => k_is); (case c_Ship_change => k_is); (case k_Ship_change => k_is); (case a_Ship_take_back => k_is); (case i_Ship_take_back => k_is); (case l_Ship_take_back => k_is); (case c_Ship_take_back => k_is); (case k_Ship_take_back => k_is); (case a_Ship_do_again => k_is); (case i_Ship_do_again => k_is); (case l_Ship_do_again => k_is); (case c_Ship_do_again => k_is); (case k_Ship_do_again => k_is); (case n_state => k_is); (case n_changes => k_is); (case pg => k_is); (case hd => k_is); (case po => k_is); (case sa => k_is); (case mk => k_is); (case kc => k_is)
    obtain ⟨c_Ship, f_Ship_init, d_Ship_init, f_Ship_answer, d_Ship_answer, f_Ship_begin, d_Ship_begin, f_Ship_change, d_Ship_change, f_Ship_take_back, d_Ship_take_back, f_Ship_do_again, d_Ship_do_again, cl_Ship, g_Ship, mk_Ship, n_Ship_state, n_Ship_changes, F_Ship_init, F_Ship_answer, m_Ship_answer, F_Ship_begin, m_Ship_begin, F_Ship_change, m_Ship_change, F_Ship_take_back, m_Ship_take_back, F_Ship_do_again, m_Ship_do_again⟩ := e_Ship
    have e_bs_boat := by
      refine' Bts.fn_mk KX G (x := "bs_boat") (st := Bts.s_bs_boat) ?a ?l ?c ?k
      (case a => k_is); (case l => k_is); (case c => k_is); (case k => k_is)
    obtain ⟨f_bs_boat, d_bs_boat, F_bs_boat, g_bs_boat⟩ := e_bs_boat
    have e_bs_into := by
      refine' Bts.fn_mk KX G (x := "bs_into") (st := Bts.s_bs_into) ?a ?l ?c ?k
      (case a => k_is); (case l => k_is); (case c => k_is); (case k => k_is)
    obtain ⟨f_bs_into, d_bs_into, F_bs_into, g_bs_into⟩ := e_bs_into
    have e_bs_out := by
      refine' Bts.fn_mk KX G (x := "bs_out") (st := Bts.s_bs_out) ?a ?l ?c ?k
      (case a => k_is); (case l => k_is); (case c => k_is); (case k => k_is)
    obtain ⟨f_bs_out, d_bs_out, F_bs_out, g_bs_out⟩ := e_bs_out
    have e_bs_go := by
      refine' Bts.fn_mk KX G (x := "bs_go") (st := Bts.s_bs_go) ?a ?l ?c ?k
      (case a => k_is); (case l => k_is); (case c => k_is); (case k => k_is)
    obtain ⟨f_bs_go, d_bs_go, F_bs_go, g_bs_go⟩ := e_bs_go
    have e_refusal_to_move := by
      refine' Bts.fn_mk KX G (x := "refusal_to_move") (st := Bts.s_refusal_to_move) ?a ?l ?c ?k
      (case a => k_is); (case l => k_is); (case c => k_is); (case k => k_is)
    obtain ⟨f_refusal_to_move, d_refusal_to_move, F_refusal_to_move, g_refusal_to_move⟩ := e_refusal_to_move
    have e_persons_beside := by
      refine' Bts.fn_mk KX G (x := "persons_beside") (st := Bts.s_persons_beside) ?a ?l ?c ?k
      (case a => k_is); (case l => k_is); (case c => k_is); (case k => k_is)
    obtain ⟨f_persons_beside, d_persons_beside, F_persons_beside, g_persons_beside⟩ := e_persons_beside
    have e_move_in := by
      refine' Bts.fn_mk KX G (x := "move_in") (st := Bts.s_move_in) ?a ?l ?c ?k
      (case a => k_is); (case l => k_is); (case c => k_is); (case k => k_is)
    obtain ⟨f_move_in, d_move_in, F_move_in, g_move_in⟩ := e_move_in
    have e_leaves_shore_in := by
      refine' Bts.fn_mk KX G (x := "leaves_shore_in") (st := Bts.s_leaves_shore_in) ?a ?l ?c ?k
      (case a => k_is); (case l => k_is); (case c => k_is); (case k => k_is)
    obtain ⟨f_leaves_shore_in, d_leaves_shore_in, F_leaves_shore_in, g_leaves_shore_in⟩ := e_leaves_shore_in
    have e_times_at_ship := by
      refine' Bts.fn_mk KX G (x := "times_at_ship") (st := Bts.s_times_at_ship) ?a ?l ?c ?k
      (case a => k_is); (case l => k_is); (case c => k_is); (case k => k_is)
    obtain ⟨f_times_at_ship, d_times_at_ship, F_times_at_ship, g_times_at_ship⟩ := e_times_at_ship
    have e_brought_within := by
      refine' Bts.fn_mk KX G (x := "brought_within") (st := Bts.s_brought_within) ?a ?l ?c ?k
      (case a => k_is); (case l => k_is); (case c => k_is); (case k => k_is)
    obtain ⟨f_brought_within, d_brought_within, F_brought_within, g_brought_within⟩ := e_brought_within
    have e_persons_away := by
      refine' Bts.fn_mk KX G (x := "persons_away") (st := Bts.s_persons_away) ?a ?l ?c ?k
      (case a => k_is); (case l => k_is); (case c => k_is); (case k => k_is)
    obtain ⟨f_persons_away, d_persons_away, F_persons_away, g_persons_away⟩ := e_persons_away
    have e_somebody_goes_ashore := by
      refine' Bts.fn_mk KX G (x := "somebody_goes_ashore") (st := Bts.s_somebody_goes_ashore) ?a ?l ?c ?k
      (case a => k_is); (case l => k_is); (case c => k_is); (case k => k_is)
    obtain ⟨f_somebody_goes_ashore, d_somebody_goes_ashore, F_somebody_goes_ashore, g_somebody_goes_ashore⟩ := e_somebody_goes_ashore
    have e_last_one_coming := by
      refine' Bts.fn_mk KX G (x := "last_one_coming") (st := Bts.s_last_one_coming) ?a ?l ?c ?k
      (case a => k_is); (case l => k_is); (case c => k_is); (case k => k_is)
    obtain ⟨f_last_one_coming, d_last_one_coming, F_last_one_coming, g_last_one_coming⟩ := e_last_one_coming
    have e_least_minutes := by
      refine' Bts.fn_mk KX G (x := "least_minutes") (st := Bts.s_least_minutes) ?a ?l ?c ?k
      (case a => k_is); (case l => k_is); (case c => k_is); (case k => k_is)
    obtain ⟨f_least_minutes, d_least_minutes, F_least_minutes, g_least_minutes⟩ := e_least_minutes
    have e_bs_home := by
      refine' Bts.fn_mk KX G (x := "bs_home") (st := Bts.s_bs_home) ?a ?l ?c ?k
      (case a => k_is); (case l => k_is); (case c => k_is); (case k => k_is)
    obtain ⟨f_bs_home, d_bs_home, F_bs_home, g_bs_home⟩ := e_bs_home
    have e_bs_slack := by
      refine' Bts.fn_mk KX G (x := "bs_slack") (st := Bts.s_bs_slack) ?a ?l ?c ?k
      (case a => k_is); (case l => k_is); (case c => k_is); (case k => k_is)
    obtain ⟨f_bs_slack, d_bs_slack, F_bs_slack, g_bs_slack⟩ := e_bs_slack
    have e_bs_brought := by
      refine' Bts.fn_mk KX G (x := "bs_brought") (st := Bts.s_bs_brought) ?a ?l ?c ?k
      (case a => k_is); (case l => k_is); (case c => k_is); (case k => k_is)
    obtain ⟨f_bs_brought, d_bs_brought, F_bs_brought, g_bs_brought⟩ := e_bs_brought
    have e_bs_fewest := by
      refine' Bts.fn_mk KX G (x := "bs_fewest") (st := Bts.s_bs_fewest) ?a ?l ?c ?k
      (case a => k_is); (case l => k_is); (case c => k_is); (case k => k_is)
    obtain ⟨f_bs_fewest, d_bs_fewest, F_bs_fewest, g_bs_fewest⟩ := e_bs_fewest
    have e_least_or_refusal := by
      refine' Bts.fn_mk KX G (x := "least_or_refusal") (st := Bts.s_least_or_refusal) ?a ?l ?c ?k
      (case a => k_is); (case l => k_is); (case c => k_is); (case k => k_is)
    obtain ⟨f_least_or_refusal, d_least_or_refusal, F_least_or_refusal, g_least_or_refusal⟩ := e_least_or_refusal
    have e_one_if := by
      refine' Bts.fn_mk KX G (x := "one_if") (st := Bts.s_one_if) ?a ?l ?c ?k
      (case a => k_is); (case l => k_is); (case c => k_is); (case k => k_is)
    obtain ⟨f_one_if, d_one_if, F_one_if, g_one_if⟩ := e_one_if
    have e_as_bits := by
      refine' Bts.fn_mk KX G (x := "as_bits") (st := Bts.s_as_bits) ?a ?l ?c ?k
      (case a => k_is); (case l => k_is); (case c => k_is); (case k => k_is)
    obtain ⟨f_as_bits, d_as_bits, F_as_bits, g_as_bits⟩ := e_as_bits
    have e_bs_next := by
      refine' Bts.fn_mk KX G (x := "bs_next") (st := Bts.s_bs_next) ?a ?l ?c ?k
      (case a => k_is); (case l => k_is); (case c => k_is); (case k => k_is)
    obtain ⟨f_bs_next, d_bs_next, F_bs_next, g_bs_next⟩ := e_bs_next
    have e_bs_where := by
      refine' Bts.fn_mk KX G (x := "bs_where") (st := Bts.s_bs_where) ?a ?l ?c ?k
      (case a => k_is); (case l => k_is); (case c => k_is); (case k => k_is)
    obtain ⟨f_bs_where, d_bs_where, F_bs_where, g_bs_where⟩ := e_bs_where
    have e_bs_look := by
      refine' Bts.fn_mk KX G (x := "bs_look") (st := Bts.s_bs_look) ?a ?l ?c ?k
      (case a => k_is); (case l => k_is); (case c => k_is); (case k => k_is)
    obtain ⟨f_bs_look, d_bs_look, F_bs_look, g_bs_look⟩ := e_bs_look
    have e_bs_all := by
      refine' Bts.fn_mk KX G (x := "bs_all") (st := Bts.s_bs_all) ?a ?l ?c ?k
      (case a => k_is); (case l => k_is); (case c => k_is); (case k => k_is)
    obtain ⟨f_bs_all, d_bs_all, F_bs_all, g_bs_all⟩ := e_bs_all
    have e_bs_may := by
      refine' Bts.fn_mk KX G (x := "bs_may") (st := Bts.s_bs_may) ?a ?l ?c ?k
      (case a => k_is); (case l => k_is); (case c => k_is); (case k => k_is)
    obtain ⟨f_bs_may, d_bs_may, F_bs_may, g_bs_may⟩ := e_bs_may
    have e_bs_sums := by
      refine' Bts.fn_mk KX G (x := "bs_sums") (st := Bts.s_bs_sums) ?a ?l ?c ?k
      (case a => k_is); (case l => k_is); (case c => k_is); (case k => k_is)
    obtain ⟨f_bs_sums, d_bs_sums, F_bs_sums, g_bs_sums⟩ := e_bs_sums
    have e_bs_state := by
      refine' Bts.fn_mk KX G (x := "bs_state") (st := Bts.s_bs_state) ?a ?l ?c ?k
      (case a => k_is); (case l => k_is); (case c => k_is); (case k => k_is)
    obtain ⟨f_bs_state, d_bs_state, F_bs_state, g_bs_state⟩ := e_bs_state
    have e_bs_ticket := by
      refine' Bts.fn_mk KX G (x := "bs_ticket") (st := Bts.s_bs_ticket) ?a ?l ?c ?k
      (case a => k_is); (case l => k_is); (case c => k_is); (case k => k_is)
    obtain ⟨f_bs_ticket, d_bs_ticket, F_bs_ticket, g_bs_ticket⟩ := e_bs_ticket
    have e_bs_call := by
      refine' Bts.fn_mk KX G (x := "bs_call") (st := Bts.s_bs_call) ?a ?l ?c ?k
      (case a => k_is); (case l => k_is); (case c => k_is); (case k => k_is)
    obtain ⟨f_bs_call, d_bs_call, F_bs_call, g_bs_call⟩ := e_bs_call
    have e_bs_drop := by
      refine' Bts.fn_mk KX G (x := "bs_drop") (st := Bts.s_bs_drop) ?a ?l ?c ?k
      (case a => k_is); (case l => k_is); (case c => k_is); (case k => k_is)
    obtain ⟨f_bs_drop, d_bs_drop, F_bs_drop, g_bs_drop⟩ := e_bs_drop
    have e_bs_place := by
      refine' Bts.fn_mk KX G (x := "bs_place") (st := Bts.s_bs_place) ?a ?l ?c ?k
      (case a => k_is); (case l => k_is); (case c => k_is); (case k => k_is)
    obtain ⟨f_bs_place, d_bs_place, F_bs_place, g_bs_place⟩ := e_bs_place
    have e_bs_first := by
      refine' Bts.fn_mk KX G (x := "bs_first") (st := Bts.s_bs_first) ?a ?l ?c ?k
      (case a => k_is); (case l => k_is); (case c => k_is); (case k => k_is)
    obtain ⟨f_bs_first, d_bs_first, F_bs_first, g_bs_first⟩ := e_bs_first
    have e_bs_fits := by
      refine' Bts.fn_mk KX G (x := "bs_fits") (st := Bts.s_bs_fits) ?a ?l ?c ?k
      (case a => k_is); (case l => k_is); (case c => k_is); (case k => k_is)
    obtain ⟨f_bs_fits, d_bs_fits, F_bs_fits, g_bs_fits⟩ := e_bs_fits
    have e_groups_that_fit := by
      refine' Bts.fn_mk KX G (x := "groups_that_fit") (st := Bts.s_groups_that_fit) ?a ?l ?c ?k
      (case a => k_is); (case l => k_is); (case c => k_is); (case k => k_is)
    obtain ⟨f_groups_that_fit, d_groups_that_fit, F_groups_that_fit, g_groups_that_fit⟩ := e_groups_that_fit
    have e_persons_of_first := by
      refine' Bts.fn_mk KX G (x := "persons_of_first") (st := Bts.s_persons_of_first) ?a ?l ?c ?k
      (case a => k_is); (case l => k_is); (case c => k_is); (case k => k_is)
    obtain ⟨f_persons_of_first, d_persons_of_first, F_persons_of_first, g_persons_of_first⟩ := e_persons_of_first
    have e_bs_minutes := by
      refine' Bts.fn_mk KX G (x := "bs_minutes") (st := Bts.s_bs_minutes) ?a ?l ?c ?k
      (case a => k_is); (case l => k_is); (case c => k_is); (case k => k_is)
    obtain ⟨f_bs_minutes, d_bs_minutes, F_bs_minutes, g_bs_minutes⟩ := e_bs_minutes
    have e_bs_swell := by
      refine' Bts.fn_mk KX G (x := "bs_swell") (st := Bts.s_bs_swell) ?a ?l ?c ?k
      (case a => k_is); (case l => k_is); (case c => k_is); (case k => k_is)
    obtain ⟨f_bs_swell, d_bs_swell, F_bs_swell, g_bs_swell⟩ := e_bs_swell
    have e_bs_sail := by
      refine' Bts.fn_mk KX G (x := "bs_sail") (st := Bts.s_bs_sail) ?a ?l ?c ?k
      (case a => k_is); (case l => k_is); (case c => k_is); (case k => k_is)
    obtain ⟨f_bs_sail, d_bs_sail, F_bs_sail, g_bs_sail⟩ := e_bs_sail
    have e_answers := by
      refine' Bts.fn_mk KX G (x := "answers") (st := Bts.s_answers) ?a ?l ?c ?k
      (case a => k_is); (case l => k_is); (case c => k_is); (case k => k_is)
    obtain ⟨f_answers, d_answers, F_answers, g_answers⟩ := e_answers
    have e_changed := by
      refine' Bts.fn_mk KX G (x := "changed") (st := Bts.s_changed) ?a ?l ?c ?k
      (case a => k_is); (case l => k_is); (case c => k_is); (case k => k_is)
    obtain ⟨f_changed, d_changed, F_changed, g_changed⟩ := e_changed
    have e_asked := by
      refine' Bts.fn_mk KX G (x := "asked") (st := Bts.s_asked) ?a ?l ?c ?k
      (case a => k_is); (case l => k_is); (case c => k_is); (case k => k_is)
    obtain ⟨f_asked, d_asked, F_asked, g_asked⟩ := e_asked
    have i_MOST_PERSONS := by
      refine' Bts.int_mk KX G (x := "MOST_PERSONS") (n := 5000) ?a
      (case a => k_is)
    have i_MOST_BOATS := by
      refine' Bts.int_mk KX G (x := "MOST_BOATS") (n := 4) ?a
      (case a => k_is)
    have i_MOST_SEATS := by
      refine' Bts.int_mk KX G (x := "MOST_SEATS") (n := 200) ?a
      (case a => k_is)
    have i_MOST_WAY := by
      refine' Bts.int_mk KX G (x := "MOST_WAY") (n := 60) ?a
      (case a => k_is)
    have i_MOST_SWELL := by
      refine' Bts.int_mk KX G (x := "MOST_SWELL") (n := 9) ?a
      (case a => k_is)
    have i_MOST_GROUPS := by
      refine' Bts.int_mk KX G (x := "MOST_GROUPS") (n := 10) ?a
      (case a => k_is)
    have i_MOST_IN_GROUP := by
      refine' Bts.int_mk KX G (x := "MOST_IN_GROUP") (n := 200) ?a
      (case a => k_is)
    have i_MOST_MINUTES_AT_ONCE := by
      refine' Bts.int_mk KX G (x := "MOST_MINUTES_AT_ONCE") (n := 1440) ?a
      (case a => k_is)
    have i_LAST_MINUTE := by
      refine' Bts.int_mk KX G (x := "LAST_MINUTE") (n := 100000) ?a
      (case a => k_is)
    have i_MOST_TIMES_GONE := by
      refine' Bts.int_mk KX G (x := "MOST_TIMES_GONE") (n := 100000) ?a
      (case a => k_is)
    have i_MOST_TICKETS := by
      refine' Bts.int_mk KX G (x := "MOST_TICKETS") (n := 100000) ?a
      (case a => k_is)
    have i_MOST_CHANGES := by
      refine' Bts.int_mk KX G (x := "MOST_CHANGES") (n := 30) ?a
      (case a => k_is)
    have i_NONE_THERE := by
      refine' Bts.int_mk KX G (x := "NONE_THERE") (n := (-2)) ?a
      (case a => k_is)
    have i_NO_ONE := by
      refine' Bts.int_mk KX G (x := "NO_ONE") (n := (-6)) ?a
      (case a => k_is)
    have i_TOO_FEW := by
      refine' Bts.int_mk KX G (x := "TOO_FEW") (n := (-12)) ?a
      (case a => k_is)
    have i_MAY_NOT_GO := by
      refine' Bts.int_mk KX G (x := "MAY_NOT_GO") (n := (-13)) ?a
      (case a => k_is)
    have i_NOT_AS_IT_LIES := by
      refine' Bts.int_mk KX G (x := "NOT_AS_IT_LIES") (n := (-16)) ?a
      (case a => k_is)
    have i_WRONG := by
      refine' Bts.int_mk KX G (x := "WRONG") (n := (-22)) ?a
      (case a => k_is)
    have i_NO_MORE := by
      refine' Bts.int_mk KX G (x := "NO_MORE") (n := (-28)) ?a
      (case a => k_is)
    have i_NEVER := by
      refine' Bts.int_mk KX G (x := "NEVER") (n := (-33)) ?a
      (case a => k_is)
    have i_NO_SEATS := by
      refine' Bts.int_mk KX G (x := "NO_SEATS") (n := (-62)) ?a
      (case a => k_is)
    have i_TOO_LATE := by
      refine' Bts.int_mk KX G (x := "TOO_LATE") (n := (-75)) ?a
      (case a => k_is)
    have i_BS_START := by
      refine' Bts.int_mk KX G (x := "BS_START") (n := 0) ?a
      (case a => k_is)
    have i_BS_BOAT := by
      refine' Bts.int_mk KX G (x := "BS_BOAT") (n := 1) ?a
      (case a => k_is)
    have i_BS_INTO := by
      refine' Bts.int_mk KX G (x := "BS_INTO") (n := 2) ?a
      (case a => k_is)
    have i_BS_OUT := by
      refine' Bts.int_mk KX G (x := "BS_OUT") (n := 3) ?a
      (case a => k_is)
    have i_BS_GO := by
      refine' Bts.int_mk KX G (x := "BS_GO") (n := 4) ?a
      (case a => k_is)
    have i_BS_MINUTES := by
      refine' Bts.int_mk KX G (x := "BS_MINUTES") (n := 5) ?a
      (case a => k_is)
    have i_BS_SWELL := by
      refine' Bts.int_mk KX G (x := "BS_SWELL") (n := 6) ?a
      (case a => k_is)
    have i_BS_TICKET := by
      refine' Bts.int_mk KX G (x := "BS_TICKET") (n := 7) ?a
      (case a => k_is)
    have i_BS_CALL := by
      refine' Bts.int_mk KX G (x := "BS_CALL") (n := 8) ?a
      (case a => k_is)
    have i_BS_DROP := by
      refine' Bts.int_mk KX G (x := "BS_DROP") (n := 9) ?a
      (case a => k_is)
    have i_BS_SAIL := by
      refine' Bts.int_mk KX G (x := "BS_SAIL") (n := 10) ?a
      (case a => k_is)
    have i_BS_HOME := by
      refine' Bts.int_mk KX G (x := "BS_HOME") (n := 11) ?a
      (case a => k_is)
    have i_BS_SLACK := by
      refine' Bts.int_mk KX G (x := "BS_SLACK") (n := 12) ?a
      (case a => k_is)
    have i_BS_BROUGHT := by
      refine' Bts.int_mk KX G (x := "BS_BROUGHT") (n := 13) ?a
      (case a => k_is)
    have i_BS_FEWEST := by
      refine' Bts.int_mk KX G (x := "BS_FEWEST") (n := 14) ?a
      (case a => k_is)
    have i_BS_NEXT := by
      refine' Bts.int_mk KX G (x := "BS_NEXT") (n := 15) ?a
      (case a => k_is)
    have i_BS_WHERE := by
      refine' Bts.int_mk KX G (x := "BS_WHERE") (n := 16) ?a
      (case a => k_is)
    have i_BS_LOOK := by
      refine' Bts.int_mk KX G (x := "BS_LOOK") (n := 17) ?a
      (case a => k_is)
    have i_BS_PLACE := by
      refine' Bts.int_mk KX G (x := "BS_PLACE") (n := 18) ?a
      (case a => k_is)
    have i_BS_FIRST := by
      refine' Bts.int_mk KX G (x := "BS_FIRST") (n := 19) ?a
      (case a => k_is)
    have i_BS_FITS := by
      refine' Bts.int_mk KX G (x := "BS_FITS") (n := 20) ?a
      (case a => k_is)
    have i_BS_ALL := by
      refine' Bts.int_mk KX G (x := "BS_ALL") (n := 21) ?a
      (case a => k_is)
    have i_BS_MAY := by
      refine' Bts.int_mk KX G (x := "BS_MAY") (n := 22) ?a
      (case a => k_is)
    have i_BS_BACK := by
      refine' Bts.int_mk KX G (x := "BS_BACK") (n := 24) ?a
      (case a => k_is)
    have i_BS_AGAIN := by
      refine' Bts.int_mk KX G (x := "BS_AGAIN") (n := 25) ?a
      (case a => k_is)
    have i_BS_STATE := by
      refine' Bts.int_mk KX G (x := "BS_STATE") (n := 26) ?a
      (case a => k_is)
    have e_NUMBERS_BEHIND := by
      refine' Bts.tup_mk KX G (x := "NUMBERS_BEHIND") (xs := [2, 3, 2, 2, 1, 1, 1, 1, 1, 1, 1, 0, 0, 1, 1, 0, 1, 1, 1, 0, 1, 0, 0, 0, 0, 0, 0].map L2.V.int) ?e ?l ?c ?d ?z ?r
      (case e => k_is); (case l => k_is); (case c => rfl); (case d => rfl); (case z => decide); (case r => exact (.cons ⟨_, rfl⟩ (.cons ⟨_, rfl⟩ (.cons ⟨_, rfl⟩ (.cons ⟨_, rfl⟩ (.cons ⟨_, rfl⟩ (.cons ⟨_, rfl⟩ (.cons ⟨_, rfl⟩ (.cons ⟨_, rfl⟩ (.cons ⟨_, rfl⟩ (.cons ⟨_, rfl⟩ (.cons ⟨_, rfl⟩ (.cons ⟨_, rfl⟩ (.cons ⟨_, rfl⟩ (.cons ⟨_, rfl⟩ (.cons ⟨_, rfl⟩ (.cons ⟨_, rfl⟩ (.cons ⟨_, rfl⟩ (.cons ⟨_, rfl⟩ (.cons ⟨_, rfl⟩ (.cons ⟨_, rfl⟩ (.cons ⟨_, rfl⟩ (.cons ⟨_, rfl⟩ (.cons ⟨_, rfl⟩ (.cons ⟨_, rfl⟩ (.cons ⟨_, rfl⟩ (.cons ⟨_, rfl⟩ (.cons ⟨_, rfl⟩ .nil))))))))))))))))))))))))))))
    obtain ⟨a_NUMBERS_BEHIND, t_NUMBERS_BEHIND⟩ := e_NUMBERS_BEHIND
    have z_any := by
      refine' PySem.W.mg_none_of KX G (n := "any") ?a
      (case a => k_is)
    have z_enumerate := by
      refine' PySem.W.mg_none_of KX G (n := "enumerate") ?a
      (case a => k_is)
    have z_len := by
      refine' PySem.W.mg_none_of KX G (n := "len") ?a
      (case a => k_is)
    have z_list := by
      refine' PySem.W.mg_none_of KX G (n := "list") ?a
      (case a => k_is)
    have z_max := by
      refine' PySem.W.mg_none_of KX G (n := "max") ?a
      (case a => k_is)
    have z_min := by
      refine' PySem.W.mg_none_of KX G (n := "min") ?a
      (case a => k_is)
    have z_sum := by
      refine' PySem.W.mg_none_of KX G (n := "sum") ?a
      (case a => k_is)
    have T := Bts.txt_K KX (mg := mg) (A := ⟨c_Boat, c_State, c_Changes, c_Ship, f_Boat_init, d_Boat_init, f_Boat_is_on_its_way, d_Boat_is_on_its_way, f_Boat_seats_left, d_Boat_seats_left, f_Boat_twin, d_Boat_twin, f_State_init, d_State_init, f_State_has_boat, d_State_has_boat, f_State_may_go, d_State_may_go, f_State_waiting, d_State_waiting, f_State_in_boats, d_State_in_boats, f_State_free_on_ship, d_State_free_on_ship, f_State_twin, d_State_twin, f_bs_boat, d_bs_boat, f_bs_into, d_bs_into, f_bs_out, d_bs_out, f_bs_go, d_bs_go, f_refusal_to_move, d_refusal_to_move, f_persons_beside, d_persons_beside, f_move_in, d_move_in, f_Changes_init, d_Changes_init, f_Changes_keep, d_Changes_keep, f_Changes_take_back, d_Changes_take_back, f_Changes_do_again, d_Changes_do_again, f_leaves_shore_in, d_leaves_shore_in, f_times_at_ship, d_times_at_ship, f_brought_within, d_brought_within, f_persons_away, d_persons_away, f_somebody_goes_ashore, d_somebody_goes_ashore, f_last_one_coming, d_last_one_coming, f_least_minutes, d_least_minutes, f_bs_home, d_bs_home, f_bs_slack, d_bs_slack, f_bs_brought, d_bs_brought, f_bs_fewest, d_bs_fewest, f_least_or_refusal, d_least_or_refusal, f_one_if, d_one_if, f_as_bits, d_as_bits, f_bs_next, d_bs_next, f_bs_where, d_bs_where, f_bs_look, d_bs_look, f_bs_all, d_bs_all, f_bs_may, d_bs_may, f_bs_sums, d_bs_sums, f_bs_state, d_bs_state, f_bs_ticket, d_bs_ticket, f_bs_call, d_bs_call, f_bs_drop, d_bs_drop, f_bs_place, d_bs_place, f_bs_first, d_bs_first, f_bs_fits, d_bs_fits, f_groups_that_fit, d_groups_that_fit, f_persons_of_first, d_persons_of_first, f_bs_minutes, d_bs_minutes, f_bs_swell, d_bs_swell, f_bs_sail, d_bs_sail, f_answers, d_answers, f_Ship_init, d_Ship_init, f_Ship_answer, d_Ship_answer, f_Ship_begin, d_Ship_begin, f_Ship_change, d_Ship_change, f_Ship_take_back, d_Ship_take_back, f_Ship_do_again, d_Ship_do_again, f_changed, d_changed, f_asked, d_asked, a_NUMBERS_BEHIND⟩) (by
      constructor <;> assumption)
    have e := hmg.symm.trans g_answers
    cases e
    exact ⟨d_answers, Bts.bt_answers F_answers, fun base _ _ => Bts.ok_answers T⟩
  case S =>
    intro K H xs a hO hwi hask hx
    cases hx with
    | cons h1 h2 =>
      cases h2
      cases h1 with
      | lst hs ha =>
        have e := L2.ints_dw a.1 _ ha
        subst e
        have q : ((Codec.inLen 0 5000 a.1 && a.1.all (Codec.inInt 0 4294967295)) && true) = true := hwi
        rw [Bool.and_eq_true, Bool.and_eq_true] at q
        exact ⟨_, a.1, rfl, hs, (Codec.inNat_iff.mp q.1.1).2, hask, fun H' p hp => .lst (L2.SqL.of hp) (L2.dw_ints _)⟩

