import PyProof.Rows.All
import Wide.All
import OpenK.AllK
import Wide.FinOn
import PyProof.EqAt
import PyProof.EqKinds
import PyProof.TupleCall
import KE.BitLaws
import Open.SpecLaws
import KE.OsHead
import KE.OsGo
import PySem.Challenge.RW_roomacoustics_s06_meets

set_option Elab.async false
set_option linter.all false
set_option maxRecDepth 100000
/-! THE HAND LAYER, for ints, bools, texts, own classes, lists, tuples, dicts, comprehensions, walks over dicts, enumerate, zip, reversed, texts, calls, loops. Paste it whole ahead of your own text; what your proof does not reach may be deleted. -/
namespace L2
open PySem PySem.Spec PyProof.Rows

/-- a key: an int or a str -/
abbrev Key := Sum Int Str
def keyIs : Key → Value → Bool
  | .inl k, v => Value.isInt k v
  | .inr x, v => Value.isStrOf x v
def keyH (w : World) : Key → Int
  | .inl k => hashInt k
  | .inr x => hashStr w x
theorem keyIs_shape : ∀ {k : Key} {v : Value}, keyIs k v = true → (∃ i t, k = Sum.inl i ∧ v = Value.int i t) ∨ (∃ x t, k = Sum.inr x ∧ v = Value.str x t)
  | .inl i, v, h => by
    obtain ⟨t, e⟩ := Value.isInt_shape (k := i) (v := v) h
    exact .inl ⟨i, t, rfl, e⟩
  | .inr x, v, h => by
    obtain ⟨t, e⟩ := Value.isStrOf_shape (x := x) (v := v) h
    exact .inr ⟨x, t, rfl, e⟩
theorem key_ll (a b : Int) : decide ((Sum.inl a : Key) = Sum.inl b) = (a == b) := by
  by_cases e : a = b
  · subst e; simp
  · have h : ¬ (Sum.inl a : Key) = Sum.inl b := fun q => e (Sum.inl.inj q)
    rw [decide_eq_false h]
    exact (beq_eq_false_iff_ne.mpr e).symm
theorem key_rr (a b : Str) : decide ((Sum.inr a : Key) = Sum.inr b) = decide (a = b) := by
  by_cases e : a = b
  · subst e; simp
  · have h : ¬ (Sum.inr a : Key) = Sum.inr b := fun q => e (Sum.inr.inj q)
    rw [decide_eq_false h, decide_eq_false e]
theorem key_lr (a : Int) (b : Str) : decide ((Sum.inl a : Key) = Sum.inr b) = false := decide_eq_false (fun q => nomatch q)
theorem key_rl (a : Str) (b : Int) : decide ((Sum.inr a : Key) = Sum.inl b) = false := decide_eq_false (fun q => nomatch q)

def mixKind (prog : Program) (w : World) : PySem.KeyKind prog w Key where
  is := keyIs
  hash := keyH w
  inj := fun v a b ha hb => by
    rcases keyIs_shape ha with ⟨i, t, rfl, rfl⟩ | ⟨x, t, rfl, rfl⟩
    · rcases keyIs_shape hb with ⟨j, u, rfl, e⟩ | ⟨y, u, rfl, e⟩
      · injection e with e1 _; rw [e1]
      · exact nomatch e
    · rcases keyIs_shape hb with ⟨j, u, rfl, e⟩ | ⟨y, u, rfl, e⟩
      · exact nomatch e
      · injection e with e1 _; rw [e1]
  byValue := fun k v h => by
    rcases keyIs_shape h with ⟨i, t, rfl, rfl⟩ | ⟨x, t, rfl, rfl⟩ <;> rfl
  pyHash := fun hv h => by
    rcases keyIs_shape hv with ⟨i, t, rfl, rfl⟩ | ⟨x, t, rfl, rfl⟩
    · exact wpAny_pyHash_int h
    · exact wpAny_pyHash_str h
  eqBool := fun hu hv h => by
    rcases keyIs_shape hu with ⟨i, t, rfl, rfl⟩ | ⟨x, t, rfl, rfl⟩
    · rcases keyIs_shape hv with ⟨j, u, rfl, rfl⟩ | ⟨y, u, rfl, rfl⟩
      · rw [key_ll] at h; exact wpAny_eqBool_int h
      · rw [key_lr] at h; exact SeqAt.EqAt.int_str i t y u _ _ _ _ h
    · rcases keyIs_shape hv with ⟨j, u, rfl, rfl⟩ | ⟨y, u, rfl, rfl⟩
      · rw [key_rl] at h; exact SeqAt.EqAt.str_int x t j u _ _ _ _ h
      · rw [key_rr] at h; exact wpAny_eqBool_str h
  «strs» := fun k x t v h => by
    rcases keyIs_shape h with ⟨i, u, rfl, e⟩ | ⟨y, u, rfl, e⟩
    · exact nomatch e
    · injection e with e1 _
      subst e1
      cases v <;> rfl

end L2

namespace L2
open PySem PySem.Spec PyProof.Rows

/-- a value, without the heap -/
inductive V where
  | non | bl (b : Bool) | int (i : Int) | str (x : Str) | byt (b : Array UInt8) | flt (b : UInt64) | ref (a : Addr) | ty (n : String)
  deriving DecidableEq

def RelV : V → Value → Prop
  | .non, u => u = Value.none
  | .bl b, u => u = Value.bool b
  | .int i, u => ∃ t, u = Value.int i t
  | .str x, u => ∃ t, u = Value.str x t
  | .byt b, u => ∃ t, u = Value.bytes b t
  | .flt b, u => ∃ t, u = Value.float b t
  | .ref a, u => u = Value.ref a
  | .ty n, u => u = Value.type n

abbrev Vals : List V → List Value → Prop := Paired RelV
theorem Vals.length {xs : List V} {us : List Value} (r : Vals xs us) : xs.length = us.length := Paired.length r
theorem Vals.get : ∀ {xs : List V} {us : List Value} {i : Nat} {x : V}, Vals xs us → xs[i]? = some x → ∃ u, us[i]? = some u ∧ RelV x u
  | _, _, _, _, .nil, e => by simp at e
  | _, _, 0, _, .cons r _, e => by simp at e; subst e; exact ⟨_, rfl, r⟩
  | _, _, i + 1, x, .cons _ t, e => by
    obtain ⟨u, h1, h2⟩ := Vals.get (i := i) (x := x) t (by simpa using e)
    exact ⟨u, by simpa using h1, h2⟩
theorem Vals.append : ∀ {xs ys : List V} {us ws : List Value}, Vals xs us → Vals ys ws → Vals (xs ++ ys) (us ++ ws)
  | _, _, _, _, .nil, s => s
  | _, _, _, _, .cons r t, s => .cons r (Vals.append t s)

def RelO : Option V → Option Value → Prop
  | some v, some u => RelV v u
  | none, none => True
  | _, _ => False
def KV {κ : Type} : List (κ × V) → List (κ × Value) → Prop := Paired fun (p : κ × V) (q : κ × Value) => p.1 = q.1 ∧ RelV p.2 q.2

/-- a key of a dict (00_mix): an int or a text -/
def kV : Key → V
  | .inl i => .int i
  | .inr x => .str x

/-- what stands at a tracked address -/
inductive HO where
  /-- a list -/
  | lst (xs : List V)
  /-- a tuple (never changes) -/
  | tup (xs : List V)
  /-- a dict whose keys are ints and texts; one whose keys are tuples of ints and texts (the empty one is both) -/
  | dK (kvs : List (Key × V)) | dT (kvs : List (List Key × V))
  /-- a set of ints: its members, its size -/
  | set (S : Int → Bool) (n : Nat)
  /-- an instance of the class at C, its dict at dx, its attributes -/
  | ins (C dx : Addr) (fs : List (Str × V))
  /-- the dict of the instance at x -/
  | own (x : Addr)
  /-- the dict of an exception -/
  | xd (fs : List (Str × V))
  /-- a bound method, f of x -/
  | met (f x : Addr)
  /-- a range object lo, lo + 1, .. below hi -/
  | rng (lo hi : Int)
  /-- a thing that is known to the object (the script; a dict while a loop walks it): read, never written while it is so -/
  | frz (o : Obj) (u : HO)
  /-- a code object's table -/
  | tbl (ps : Array Value)
  /-- any other thing, by what is true of its one object (a def of one's own: SetO a S n := HO.ext fun h => ..) -/
  | ext (φ : Heap → Prop)

abbrev Hp := Addr → Option HO
def upd (H : Hp) (a : Addr) (o : HO) : Hp := fun b => if b = a then some o else H b
theorem upd_same {H : Hp} {a : Addr} {o : HO} : upd H a o a = some o := by unfold upd; rw [if_pos rfl]
theorem upd_ne {H : Hp} {a b : Addr} {o : HO} (h : b ≠ a) : upd H a o b = H b := by unfold upd; rw [if_neg h]
/-- two objects of different content stand apart -/
theorem ne_of {H : Hp} {a b : Addr} {o u : HO} (h : H a = some o) (h' : H b = some u) (d : o ≠ u) : a ≠ b := by
  intro e; subst e; rw [h] at h'; exact d (Option.some.inj h')
theorem ne_of_none {H : Hp} {a b : Addr} {o : HO} (h : H a = some o) (h' : H b = none) : a ≠ b := by
  intro e; subst e; rw [h] at h'; cases h'

section
variable (P : Program) (w : World)
def ObjOk (H : Hp) (h : Heap) (a : Addr) : HO → Prop
  | .lst xs => xs.length ≤ sizeLine ∧ ∃ (its : List Value) (n : Nat), Vals xs its ∧ h.get? a = some { cls := .type "list", data := .seq its.toArray n }
  | .tup xs => xs.length ≤ sizeLine ∧ ∃ its : List Value, Vals xs its ∧ IsTup h a its.toArray
  | .dK kvs => kvs.length ≤ sizeLine ∧ (a == sysModules) = false ∧ ∃ vs, KV kvs vs ∧ h.DictOf (mixKind P w) a vs
  | .dT kvs => kvs.length ≤ sizeLine ∧ (a == sysModules) = false ∧ ∃ xs : List (List Key × Addr × Value),
      Paired (fun (p : List Key × V) (q : List Key × Addr × Value) => p.1 = q.1 ∧ H q.2.1 = some (.tup (p.1.map kV)) ∧ RelV p.2 q.2.2) kvs xs ∧
      ∃ o es ep, h.get? a = some o ∧ o.ExactDict ∧ o.data = .dict es ep ∧ es.toList = xs.map (entryOfKey (tupleKind (mixKind P w))) ∧ (xs.map (·.1)).Nodup
  | .set S n => h.SetOf (intKind P w) a S n
  | .ins C dx fs => H dx = some (.own a) ∧ fs.length ≤ 1000 ∧ dx ≠ a ∧ h.get? a = some (PySem.W.instObj C dx) ∧
      ∃ mA, h.Ns1 dx mA ∧ (∀ f, RelO (fs.lookup f) (mA f)) ∧ PySem.Within mA (fs.map (·.1))
  | .own _ => ∃ o, h.get? a = some o
  | .xd fs => ∃ mA, h.Ns1 a mA ∧ ∀ f, RelO (fs.lookup f) (mA f)
  | .rng lo hi => ∃ t u v, h.get? a = some { cls := .type "range", data := .fields #[.int lo t, .int hi u, .int 1 v] }
  | .frz o u => h.get? a = some o ∧ ObjOk H h a u
  | .tbl ps => h.get? a = some { cls := .none, data := .fields ps }
  | .met f x => h.get? a = some (PySem.W.methodObj (.ref f) (.ref x))
  | .ext φ => φ h ∧ (∃ o, h.get? a = some o) ∧ ∀ h1 h2 : Heap, φ h1 → (∀ o, h1.get? a = some o → h2.get? a = some o) → φ h2
/-- the abstract heap is held -/
def HOk (H : Hp) (h : Heap) : Prop := ∀ a o, H a = some o → ObjOk P w H h a o
end

section
variable {P : Program} {w : World} {H H' : Hp} {h h' : Heap} {a : Addr} {o : HO}
theorem ObjOk.lt (x : ObjOk P w H h a o) : a < h.objs.size := by
  cases o with
  | lst xs => obtain ⟨_, _, _, _, e⟩ := x; exact Heap.lt_size e
  | tup xs => obtain ⟨_, _, _, p⟩ := x; exact p.lt
  | dK kvs => obtain ⟨_, _, _, _, o, _, _, e, _⟩ := x; exact Heap.lt_size e
  | dT kvs => obtain ⟨_, _, _, _, o, _, _, e, _⟩ := x; exact Heap.lt_size e
  | set S n => obtain ⟨o, _, _, _, e, _⟩ := x; exact Heap.lt_size e
  | ins C dx fs => obtain ⟨_, _, _, e, _⟩ := x; exact Heap.lt_size e
  | own y => obtain ⟨_, e⟩ := x; exact Heap.lt_size e
  | xd fs => obtain ⟨_, ⟨_, _, _, e, _⟩, _⟩ := x; exact Heap.lt_size e
  | rng lo hi => obtain ⟨_, _, _, e⟩ := x; exact Heap.lt_size e
  | frz ob u => obtain ⟨e, _⟩ := x; exact Heap.lt_size e
  | tbl ps => exact Heap.lt_size (show h.get? a = some _ from x)
  | met f y => exact Heap.lt_size (show h.get? a = some _ from x)
  | ext φ => obtain ⟨_, ⟨_, e⟩, _⟩ := x; exact Heap.lt_size e
theorem Paired.mapP {α β : Type} {F G : α → β → Prop} : ∀ {l₁ : List α} {l₂ : List β}, Paired F l₁ l₂ → (∀ a b, F a b → G a b) → Paired G l₁ l₂
  | _, _, .nil, _ => .nil
  | _, _, .cons r t, f => .cons (f _ _ r) (Paired.mapP t f)
/-- what an object's description leans on: its own object, its own dict, the tuples -/
theorem ObjOk.stay (x : ObjOk P w H h a o) (k : ∀ b u, (b = a ∨ H b = some (.own a)) → h.get? b = some u → h'.get? b = some u)
    (ho : ∀ b, H b = some (.own a) → H' b = some (.own a)) (ht : ∀ b xs, H b = some (.tup xs) → H' b = some (.tup xs)) : ObjOk P w H' h' a o := by
  induction o with
  | lst xs => obtain ⟨z, its, n, r, e⟩ := x; exact ⟨z, its, n, r, k _ _ (.inl rfl) e⟩
  | tup xs => obtain ⟨z, its, r, ob, e, c⟩ := x; exact ⟨z, its, r, ob, k _ _ (.inl rfl) e, c⟩
  | dK kvs => obtain ⟨z, y, vs, r, ob, es, ep, e, c⟩ := x; exact ⟨z, y, vs, r, ob, es, ep, k _ _ (.inl rfl) e, c⟩
  | dT kvs =>
    obtain ⟨z, y, xs, r, ob, es, ep, e, c⟩ := x
    exact ⟨z, y, xs, Paired.mapP r fun p q z => ⟨z.1, ht _ _ z.2.1, z.2.2⟩, ob, es, ep, k _ _ (.inl rfl) e, c⟩
  | set S n => obtain ⟨ob, es, ep, t, e, c⟩ := x; exact ⟨ob, es, ep, t, k _ _ (.inl rfl) e, c⟩
  | ins C dx fs =>
    obtain ⟨d, z, ne, e, mA, ⟨od, es, ep, e2, c⟩, r⟩ := x
    exact ⟨ho _ d, z, ne, k _ _ (.inl rfl) e, mA, ⟨od, es, ep, k _ _ (.inr d) e2, c⟩, r⟩
  | own y => obtain ⟨ob, e⟩ := x; exact ⟨ob, k _ _ (.inl rfl) e⟩
  | xd fs => obtain ⟨mA, ⟨od, es, ep, e, c⟩, r⟩ := x; exact ⟨mA, ⟨od, es, ep, k _ _ (.inl rfl) e, c⟩, r⟩
  | rng lo hi => obtain ⟨t, u, v, e⟩ := x; exact ⟨t, u, v, k _ _ (.inl rfl) e⟩
  | frz ob u ih => obtain ⟨e, q⟩ := x; exact ⟨k _ _ (.inl rfl) e, ih q⟩
  | tbl ps =>
    have e : h.get? a = some { cls := .none, data := .fields ps } := x
    show h'.get? a = some { cls := .none, data := .fields ps }
    exact k a _ (.inl rfl) e
  | met f y =>
    have e : h.get? a = some (PySem.W.methodObj (.ref f) (.ref y)) := x
    show h'.get? a = some (PySem.W.methodObj (.ref f) (.ref y))
    exact k a _ (.inl rfl) e
  | ext φ => obtain ⟨p, ⟨o, e⟩, st⟩ := x; exact ⟨st _ _ p fun o q => k _ _ (.inl rfl) q, ⟨o, k _ _ (.inl rfl) e⟩, st⟩
theorem HOk.lt (x : HOk P w H h) (e : H a = some o) : a < h.objs.size := (x a o e).lt
theorem HOk.fresh (x : HOk P w H h) (e : h.objs.size ≤ a) : H a = none := by
  cases q : H a with
  | none => rfl
  | some u => exact absurd (Nat.lt_of_lt_of_le (x.lt q) e) (Nat.lt_irrefl _)
/-- every object of the heap is kept -/
theorem HOk.kept (x : HOk P w H h) (k : ∀ b u, h.get? b = some u → h'.get? b = some u) : HOk P w H h' := fun a o e =>
  (x a o e).stay (fun b u _ q => k b u q) (fun _ q => q) fun _ _ q => q
/-- a new object is laid and tracked -/
theorem HOk.laid (x : HOk P w H h) (k : ∀ b u, h.get? b = some u → h'.get? b = some u) (hp : h.objs.size ≤ a) (new : ObjOk P w (upd H a o) h' a o) : HOk P w (upd H a o) h' := fun b u e => by
  have hn := x.fresh hp
  by_cases hb : b = a
  · subst hb; rw [upd_same] at e; cases e; exact new
  · rw [upd_ne hb] at e
    exact (x b u e).stay (fun c v _ q => k c v q) (fun c q => by rw [upd_ne (ne_of_none q hn)]; exact q) fun c xs q => by rw [upd_ne (ne_of_none q hn)]; exact q
end

/-- what may be read as u: it is u, or a known u -/
def Rd (H : Hp) (a : Addr) (u : HO) : Prop := H a = some u ∨ ∃ o, H a = some (.frz o u)
theorem Rd.ok {P : Program} {w : World} {H : Hp} {h : Heap} {a : Addr} {u : HO} (r : Rd H a u) (x : HOk P w H h) : ObjOk P w H h a u := by
  rcases r with r | ⟨o, r⟩
  · exact x a u r
  · obtain ⟨_, q⟩ := x a _ r
    exact q
/-- what may be written -/
def Mut : Option HO → Prop
  | some (.lst _) => True
  | some (.dK _) => True
  | some (.dT _) => True
  | some (.set _ _) => True
  | some (.ins _ _ _) => True
  | some (.ext _) => True
  | _ => False
section
variable {P : Program} {w : World} {H : Hp} {h h' : Heap} {x e : Addr} {o' : HO}
/-- the object at e is changed: x itself, or the dict of the instance x -/
theorem HOk.write (ok : HOk P w H h) (mu : Mut (H x)) (he : e = x ∨ H e = some (.own x)) (k : ∀ b u, b ≠ e → h.get? b = some u → h'.get? b = some u) (heo : ∃ u, h'.get? e = some u)
    (new : ObjOk P w (upd H x o') h' x o') : HOk P w (upd H x o') h' := fun b u q => by
  have nown : ∀ c y, H c = some (.own y) → c ≠ x := fun c y r z => by subst z; rw [r] at mu; exact mu
  have ntup : ∀ c xs, H c = some (.tup xs) → c ≠ x := fun c xs r z => by subst z; rw [r] at mu; exact mu
  by_cases hb : b = x
  · subst hb; rw [upd_same] at q; cases q; exact new
  · rw [upd_ne hb] at q
    by_cases hbe : b = e
    · have q' : H b = some (.own x) := by
        rcases he with z | z
        · exact absurd (hbe.trans z) hb
        · rw [hbe]; exact z
      rw [q] at q'; cases q'
      obtain ⟨v, hv⟩ := heo
      exact ⟨v, by rw [hbe]; exact hv⟩
    · refine (ok b u q).stay (fun c v hc r => k c v ?_ r) (fun c r => by rw [upd_ne (nown c b r)]; exact r) fun c xs r => by rw [upd_ne (ntup c xs r)]; exact r
      rcases hc with rfl | hc
      · exact hbe
      · rintro rfl
        rcases he with z | z
        · exact nown c b hc z
        · rw [hc] at z; cases z; exact hb rfl
end

/-! ### kept unless tracked; of the frames at fs (the callers') the slots may change (an exception that passes writes there); of the records at ex (iterators) nothing is said -/
structure Un (fs ex : List Addr) (H H' : Hp) (h h' : Heap) : Prop where
  keep : ∀ b o, h.get? b = some o → H b = none → b ∉ fs → b ∉ ex → h'.get? b = some o
  slot : ∀ b o, h.get? b = some o → H b = none → b ∈ fs → b ∉ ex → ∃ sl, h'.get? b = some { o with slots := sl }
  free : ∀ b o, h.get? b = some o → H b = none → b ∉ ex → H' b = none
  there : ∀ b o, h.get? b = some o → b ∉ ex → ∃ o', h'.get? b = some o'
  tups : ∀ b xs, H b = some (.tup xs) → H' b = some (.tup xs)
  frzs : ∀ b o u, H b = some (.frz o u) → H' b = some (.frz o u)
  tbls : ∀ b ps, H b = some (.tbl ps) → ∃ more, H' b = some (.tbl (ps ++ more))
section
variable {fs fs' ex ex' : List Addr} {H H1 H2 : Hp} {h h1 h2 h' : Heap} {a x e : Addr} {o : HO}
theorem Un.any (u : Un fs ex H H1 h h1) {b : Addr} {ob : Obj} (q : h.get? b = some ob) (n : H b = none) (hx : b ∉ ex) : ∃ sl, h1.get? b = some { ob with slots := sl } := by
  by_cases hb : b ∈ fs
  · exact u.slot b ob q n hb hx
  · exact ⟨ob.slots, u.keep b ob q n hb hx⟩
theorem Un.kept (k : ∀ b u, h.get? b = some u → h'.get? b = some u) : Un fs ex H H h h' :=
  ⟨fun b ob q _ _ _ => k b ob q, fun b ob q _ _ _ => ⟨ob.slots, k b ob q⟩, fun _ _ _ n _ => n, fun b ob q _ => ⟨ob, k b ob q⟩, fun _ _ q => q, fun _ _ _ q => q, fun _ ps q => ⟨#[], by rw [q]; simp⟩⟩
theorem Un.refl : Un fs ex H H h h := Un.kept fun _ _ q => q
theorem Un.laid (k : ∀ b u, h.get? b = some u → h'.get? b = some u) (hp : h.objs.size ≤ a) (hn : H a = none) : Un fs ex H (upd H a o) h h' where
  keep := fun b u q _ _ _ => k b u q
  slot := fun b u q _ _ _ => ⟨u.slots, k b u q⟩
  free := fun b u q n _ => by rw [upd_ne (Nat.ne_of_lt (Nat.lt_of_lt_of_le (Heap.lt_size q) hp))]; exact n
  there := fun b u q _ => ⟨u, k b u q⟩
  tups := fun b xs q => by rw [upd_ne (ne_of_none q hn)]; exact q
  frzs := fun b u xs q => by rw [upd_ne (ne_of_none q hn)]; exact q
  tbls := fun b ps q => ⟨#[], by rw [upd_ne (ne_of_none q hn), q]; simp⟩
theorem Un.write (mu : Mut (H x)) (he : e = x ∨ H e = some (.own x)) (k : ∀ b u, b ≠ e → h.get? b = some u → h'.get? b = some u) (heo : ∃ u, h'.get? e = some u) : Un fs ex H (upd H x o) h h' := by
  have hx : ∀ b, H b = none → b ≠ x := fun b n z => by subst z; rw [n] at mu; exact mu
  have hb : ∀ b, H b = none → b ≠ e := fun b n z => by
    subst z
    rcases he with r | r
    · exact hx b n r
    · rw [n] at r; cases r
  have hm : ∀ b u, H b = some u → ¬ Mut (some u) → b ≠ x := fun b u q nm z => by subst z; rw [q] at mu; exact nm mu
  refine ⟨fun b u q n _ _ => k b u (hb b n) q, fun b u q n _ _ => ⟨u.slots, k b u (hb b n) q⟩, fun b u q n _ => by rw [upd_ne (hx b n)]; exact n, fun b u q _ => ?_,
    fun b xs q => by rw [upd_ne (hm b _ q fun z => z)]; exact q, fun b u xs q => by rw [upd_ne (hm b _ q fun z => z)]; exact q, fun b ps q => ⟨#[], by rw [upd_ne (hm b _ q fun z => z), q]; simp⟩⟩
  by_cases hbe : b = e
  · subst hbe; exact heo
  · exact ⟨u, k b u hbe q⟩
end

/-! ### the heap without what is tracked -/
def trk (h : Heap) (H : Hp) : List Addr := (List.range h.objs.size).filter fun a => (H a).isSome
def hidT (h : Heap) (H : Hp) : Heap := PySem.W.hideAll h (trk h H)
theorem hidT_size (h : Heap) (H : Hp) : (hidT h H).objs.size = h.objs.size := PySem.W.hideAll_size _ _
theorem hidT_get {h : Heap} {H : Hp} {b : Addr} {o : Obj} (e : h.get? b = some o) (n : H b = none) : (hidT h H).get? b = some o :=
  PySem.W.hideAll_get _ e fun hm => by
    have q : (H b).isSome = true := (List.mem_filter.mp hm).2
    rw [n] at q; simp at q
theorem of_hidT {h : Heap} {H : Hp} {b : Addr} {o : Obj} (e : (hidT h H).get? b = some o) : h.get? b = some o ∧ H b = none := by
  have e' : h.get? b = some o := PySem.W.of_hideAll (trk h H) e
  refine ⟨e', ?_⟩
  cases q : H b with
  | none => rfl
  | some x =>
    have hm : b ∈ trk h H := List.mem_filter.mpr ⟨List.mem_range.mpr (Heap.lt_size e'), by simp [q]⟩
    have z : (hidT h H).get? b = none := PySem.W.hideAll_none (trk h H) hm
    rw [z] at e; cases e

/-! ### OpenK's ledger, filled with every new object but one -/
def allNews (g h : Heap) (L : Addr) : List (Addr × Obj) := (List.range h.objs.size).filterMap fun a => if a = L ∨ (g.get? a).isSome = true then none else (h.get? a).map fun o => (a, o)
def rest (g h : Heap) (L d : Addr) : List (Addr × Obj) := (allNews g h L).filter fun p => decide (p.1 ≠ d)
end L2

namespace L2
open PySem PySem.Spec PyProof.Rows

/-- the module's facts, over the base: the heap at the law's entry without what is tracked there -/
structure Mod (K : PySem.W.Frag) (mg : Str → Option Value) (base : Heap) : Prop where
  kin : K.In base
  glob : base.Ns mainGlobals mg
  blt : ∃ mb, base.Ns builtinsNs mb ∧ ∀ x : Str, x ≠ "__name__" → mb x = bootBuiltins x
  nolimit : base.NoLimit

/-- the context: a def's body (or a comprehension's block) running. base: fixed through the whole law; s₀, H₀: the entry; outer: the frames whose slots others may change (a def's callers); stack: all frames that run;
   ex: iterators that were made ahead of the entry and are walked here (a comprehension's); fn: the names whose cells were made at the entry (a def: all; a comprehension's block: its own); calm: not within an except suite; pn: pins that every state bears; xe: what is wanted of an exception that leaves the code -/
structure Cx where
  prog : Program
  w : World
  K : PySem.W.Frag
  mg : Str → Option Value
  base : Heap
  A : Around
  N : List Str
  s_0 : Shared
  H_0 : Hp
  env : Env
  outer : List Env
  stack : List Env
  ex : List Addr
  fn : Str → Bool
  calm : Bool
  pn : List (Addr × Obj)
  xe : Value → Shared → Prop
/-- the callers' frames -/
def frs (l : List Env) : List Addr := l.filterMap (·.frame)
abbrev Cx.fs (X : Cx) : List Addr := frs X.outer

def Vis (sc : Scope) (x : Str) : Prop := sc.names.lookup x = some .local ∨ sc.names.lookup x = some .cell ∨ sc.names.lookup x = some .free
def Loc (sc : Scope) (x : Str) : Prop := sc.names.lookup x = some .local ∨ sc.names.lookup x = some .cell
def Look (env : Env) (h : Heap) (m : Str → Option Value) (x : Str) (u : Value) : Prop :=
  (env.kindOf x = some .local ∧ m x = some u) ∨ ((env.kindOf x = some .cell ∨ env.kindOf x = some .free) ∧ ∃ c, env.cells.lookup x = some c ∧ h.IsCell c (some u))

structure Cx.Ok (X : Cx) : Prop where
  mod : Mod X.K X.mg X.base
  kind : X.env.scope.kind = .function
  glob : X.env.globals = mainGlobals
  blt : X.env.builtins = builtinsNs
  above : X.s_0.heap.objs.size ≤ X.env.locals
  inj : ∀ x y c, X.env.cells.lookup x = some c → X.env.cells.lookup y = some c → x = y
  has : ∀ x, (X.env.kindOf x = some .cell ∨ X.env.kindOf x = some .free) → ∃ c, X.env.cells.lookup x = some c
  cab : ∀ x c, X.fn x = true → X.env.cells.lookup x = some c → X.s_0.heap.objs.size ≤ c
  hd : X.calm = true → X.A.handled = none
  frames : X.A.frames = some X.stack
  stk : X.stack = X.outer ∨ (X.stack = X.env :: X.outer ∧ X.env.frame = some X.env.locals)
  exf : ∀ b ∈ X.ex, b ≠ X.env.locals ∧ ∀ x c, X.env.cells.lookup x = some c → c ≠ b
  bs : ∀ b o, X.base.get? b = some o → X.s_0.heap.get? b = some o ∧ X.H_0 b = none
  bsz : X.base.objs.size ≤ X.s_0.heap.objs.size
  noex : ∀ b o, X.base.get? b = some o → b ∉ X.ex
  exfs : ∀ b ∈ X.ex, b ∉ X.fs
  funs : X.s_0.heap.FunFrames X.base X.outer
  frf : ∀ b ∈ X.fs, X.H_0 b = none

structure Inv (X : Cx) (pins : List (Addr × Obj)) (σ : List (Option V)) (H : Hp) (s : Shared) : Prop where
  ok : X.Ok
  os : s.os = X.s_0.os
  bare : AllBare s.gens
  base : Un X.fs X.ex X.H_0 H X.s_0.heap s.heap
  loc : ∃ m, s.heap.Ns X.env.locals m ∧ ∀ (i : Nat) (x : Str) (v : V), X.N[i]? = some x → σ[i]? = some (some v) → Vis X.env.scope x → ∃ u, RelV v u ∧ Look X.env s.heap m x u
  cell : ∀ x c, X.env.cells.lookup x = some c → ∃ v, s.heap.IsCell c v
  free : H X.env.locals = none
  freeC : ∀ x c, X.env.cells.lookup x = some c → H c = none
  pin : ∀ p ∈ X.pn ++ pins, s.heap.get? p.1 = some p.2 ∧ H p.1 = none ∧ p.1 ≠ X.env.locals ∧ p.1 ∉ X.fs ∧ ∀ v, p.2.data ≠ .cell v
  hok : HOk X.prog X.w H s.heap
  len : σ.length = X.N.length

section
variable {X : Cx} {pins : List (Addr × Obj)} {σ : List (Option V)} {H H' : Hp} {s : Shared} {h' : Heap}

theorem Cx.Ok.nofr (ok : X.Ok) {b : Addr} {o : Obj} (e : X.base.get? b = some o) : b ∉ X.fs := fun hb => by
  have := (ok.funs.mem hb).1
  rw [e] at this; cases this
theorem Inv.bs (I : Inv X pins σ H s) : ∀ b o, X.base.get? b = some o → s.heap.get? b = some o ∧ H b = none := fun b o e =>
  ⟨I.base.keep b o (I.ok.bs b o e).1 (I.ok.bs b o e).2 (I.ok.nofr e) (I.ok.noex b o e), I.base.free b o (I.ok.bs b o e).1 (I.ok.bs b o e).2 (I.ok.noex b o e)⟩
theorem Inv.bk (I : Inv X pins σ H s) : ∀ b o, X.base.get? b = some o → s.heap.get? b = some o := fun b o e => (I.bs b o e).1
theorem Inv.mod (I : Inv X pins σ H s) : Mod X.K X.mg X.base := I.ok.mod
theorem Inv.kIn (I : Inv X pins σ H s) : X.K.In s.heap := I.ok.mod.kin.keeps I.bk
theorem Inv.lt (I : Inv X pins σ H s) : X.env.locals < s.heap.objs.size := let ⟨_, hn, _⟩ := I.loc; hn.lt
theorem Inv.sz (I : Inv X pins σ H s) : X.s_0.heap.objs.size ≤ s.heap.objs.size := Nat.le_trans I.ok.above (Nat.le_of_lt I.lt)
theorem Inv.nofs (I : Inv X pins σ H s) {a : Addr} (h : s.heap.objs.size ≤ a) : a ∉ X.fs := fun hb => by
  obtain ⟨_, o, ho, _⟩ := I.ok.funs.mem hb
  exact absurd (Nat.lt_of_lt_of_le (Heap.lt_size ho) (Nat.le_trans I.sz h)) (Nat.lt_irrefl _)
theorem Inv.cne (I : Inv X pins σ H s) : ∀ x c, X.env.cells.lookup x = some c → c ≠ X.env.locals := fun x c e z => by
  obtain ⟨v, o, ho, hd⟩ := I.cell x c e
  obtain ⟨m, ⟨o', es, ep, ho', hd', _⟩, _⟩ := I.loc
  rw [z, ho'] at ho; cases ho; rw [hd'] at hd; cases hd
theorem Inv.funs (I : Inv X pins σ H s) : s.heap.FunFrames X.base X.outer := by
  have all : ∀ (l : List Env), (∀ b ∈ frs l, b ∈ X.fs) → X.s_0.heap.FunFrames X.base l → s.heap.FunFrames X.base l := by
    intro l
    induction l with
    | nil => intro _ _; trivial
    | cons env r ih =>
      intro hs hl
      obtain ⟨hk, ⟨L, o, hf, hn, ho, hd⟩, hr⟩ := hl
      have hL : L ∈ X.fs := hs L (by unfold frs; rw [List.filterMap_cons, hf]; exact List.mem_cons_self)
      obtain ⟨sl, e⟩ := I.base.slot L o ho (I.ok.frf L hL) hL fun z => I.ok.exfs L z hL
      exact ⟨hk, ⟨L, _, hf, hn, e, hd⟩, ih (fun b hb => hs b (by unfold frs; rw [List.filterMap_cons, hf]; exact List.mem_cons_of_mem _ hb)) hr⟩
  exact all X.outer (fun _ hb => hb) I.ok.funs

/-- the frames that run, for a call -/
theorem Inv.stack (I : Inv X pins σ H s) : s.heap.FunFrames X.base X.stack := by
  rcases I.ok.stk with e | ⟨e, hf⟩
  · rw [e]; exact I.funs
  · rw [e]
    obtain ⟨m, hn, _⟩ := I.loc
    refine .cons (by rw [I.ok.kind]; decide) hf hn ?_ I.funs
    exact Heap.get?_none_of_le (Nat.le_trans I.ok.bsz I.ok.above)
theorem Inv.stkSub (I : Inv X pins σ H s) : ∀ b ∈ frs X.stack, b ∈ X.env.locals :: X.fs := fun b hb => by
  rcases I.ok.stk with e | ⟨e, hf⟩
  · rw [e] at hb; exact List.mem_cons_of_mem _ hb
  · rw [e] at hb
    unfold frs at hb
    rw [List.filterMap_cons, hf] at hb
    exact hb
theorem Inv.stkFree (I : Inv X pins σ H s) : ∀ b ∈ frs X.stack, H b = none := fun b hb => by
  rcases List.mem_cons.mp (I.stkSub b hb) with e | hb
  · rw [e]; exact I.free
  · obtain ⟨_, o, ho, _⟩ := I.ok.funs.mem hb
    exact I.base.free b o ho (I.ok.frf b hb) fun z => I.ok.exfs b z hb

/-- THE STEP: the untracked objects but the frame and the records at ch are kept (the callers' frames up to slots), the frame's map is kept, the new abstract heap is held -/
theorem Inv.step {g' : Array GenState} {t' : Nat} {d' : Drawn} {ch : List Addr} (I : Inv X pins σ H s)
    (hch : ∀ b ∈ ch, (b ∈ X.ex ∨ X.s_0.heap.objs.size ≤ b) ∧ b ≠ X.env.locals ∧ (∀ x c, X.env.cells.lookup x = some c → c ≠ b) ∧ ∀ p ∈ X.pn ++ pins, p.1 ≠ b)
    (keep : ∀ b o, b ≠ X.env.locals → b ∉ X.fs → b ∉ ch → s.heap.get? b = some o → H b = none → h'.get? b = some o)
    (slot : ∀ b o, b ≠ X.env.locals → b ∈ X.fs → b ∉ ch → s.heap.get? b = some o → H b = none → ∃ sl, h'.get? b = some { o with slots := sl }) (free : ∀ b o, b ∉ ch → s.heap.get? b = some o → H b = none → H' b = none)
    (there : ∀ b o, b ∉ ch → s.heap.get? b = some o → ∃ o', h'.get? b = some o')
    (tups : ∀ b xs, H b = some (.tup xs) → H' b = some (.tup xs)) (frzs : ∀ b o u, H b = some (.frz o u) → H' b = some (.frz o u)) (tbls : ∀ b ps, H b = some (.tbl ps) → ∃ more, H' b = some (.tbl (ps ++ more)))
    (ns : ∀ m, s.heap.Ns X.env.locals m → h'.Ns X.env.locals m) (hok : HOk X.prog X.w H' h') (hg : AllBare g') :
    Inv X pins σ H' { s with heap := h', gens := g', drawn := d', toks := t' } := by
  have neL : ∀ b o, X.s_0.heap.get? b = some o → b ≠ X.env.locals := fun b o e => Nat.ne_of_lt (Nat.lt_of_lt_of_le (Heap.lt_size e) I.ok.above)
  have neC : ∀ b o, X.s_0.heap.get? b = some o → b ∉ X.ex → b ∉ ch := fun b o e hx hb => by
    rcases (hch b hb).1 with z | z
    · exact hx z
    · exact absurd (Nat.lt_of_lt_of_le (Heap.lt_size e) z) (Nat.lt_irrefl _)
  have cellK : ∀ x c, X.env.cells.lookup x = some c → ∀ v, s.heap.IsCell c v → h'.IsCell c v := fun x c e v ⟨o, ho, hd⟩ => by
    have nch : c ∉ ch := fun z => (hch c z).2.2.1 x c e rfl
    by_cases hc : c ∈ X.fs
    · obtain ⟨sl, q⟩ := slot c o (I.cne x c e) hc nch ho (I.freeC x c e)
      exact ⟨_, q, hd⟩
    · exact ⟨o, keep c o (I.cne x c e) hc nch ho (I.freeC x c e), hd⟩
  refine ⟨I.ok, I.os, hg, ⟨fun b o e n hb hx => ?_, fun b o e n hb hx => ?_, fun b o e n hx => ?_, fun b o e hx => ?_, fun b xs e => tups b xs (I.base.tups b xs e), fun b o xs e => frzs b o xs (I.base.frzs b o xs e), fun b ps e => ?_⟩, ?_, fun x c e => ?_, ?_, fun x c e => ?_, fun p hp => ?_, hok, I.len⟩
  · exact keep b o (neL b o e) hb (neC b o e hx) (I.base.keep b o e n hb hx) (I.base.free b o e n hx)
  · obtain ⟨sl, e1⟩ := I.base.slot b o e n hb hx
    obtain ⟨sl', e2⟩ := slot b _ (neL b o e) hb (neC b o e hx) e1 (I.base.free b o e n hx)
    exact ⟨sl', e2⟩
  · obtain ⟨o', e1⟩ := I.base.there b o e hx
    exact free b o' (neC b o e hx) e1 (I.base.free b o e n hx)
  · obtain ⟨o', e1⟩ := I.base.there b o e hx
    exact there b o' (neC b o e hx) e1
  · obtain ⟨m1, e1⟩ := I.base.tbls b ps e
    obtain ⟨m2, e2⟩ := tbls b _ e1
    exact ⟨m1 ++ m2, by rw [e2, Array.append_assoc]⟩
  · obtain ⟨m, hn, hl⟩ := I.loc
    refine ⟨m, ns m hn, fun i x v e1 e2 e3 => ?_⟩
    obtain ⟨u, r, l⟩ := hl i x v e1 e2 e3
    refine ⟨u, r, ?_⟩
    rcases l with l | ⟨k, c, e, z⟩
    · exact .inl l
    · exact .inr ⟨k, c, e, cellK x c e _ z⟩
  · obtain ⟨v, z⟩ := I.cell x c e
    exact ⟨v, cellK x c e v z⟩
  · obtain ⟨m, ⟨o, _, _, ho, _⟩, _⟩ := I.loc
    exact free _ o (fun z => (hch _ z).2.1 rfl) ho I.free
  · obtain ⟨v, o, ho, hd⟩ := I.cell x c e
    exact free c o (fun z => (hch c z).2.2.1 x c e rfl) ho (I.freeC x c e)
  · obtain ⟨e, n, ne, nf, d⟩ := I.pin p hp
    have nch : p.1 ∉ ch := fun z => (hch p.1 z).2.2.2 p hp rfl
    exact ⟨keep p.1 p.2 ne nf nch e n, free p.1 p.2 nch e n, ne, nf, d⟩
/-- .. where the frame's own object is kept too -/
theorem Inv.un {t' : Nat} (I : Inv X pins σ H s) (u : Un X.fs [] H H' s.heap h') (hok : HOk X.prog X.w H' h') : Inv X pins σ H' { s with heap := h', toks := t' } := by
  obtain ⟨m, ⟨o, es, ep, ho, r⟩, _⟩ := id I.loc
  obtain ⟨sl, hL⟩ := u.any ho I.free (by simp)
  exact I.step (g' := s.gens) (d' := s.drawn) (ch := []) (fun _ z => nomatch z) (fun b o _ hb _ e n => u.keep b o e n hb (by simp)) (fun b o _ hb _ e n => u.slot b o e n hb (by simp)) (fun b o _ e n => u.free b o e n (by simp)) (fun b o _ e => u.there b o e (by simp)) u.tups u.frzs u.tbls (fun m' hm => by
    obtain ⟨o', es', ep', ho', r'⟩ := hm
    rw [ho] at ho'; cases ho'
    exact ⟨_, es', ep', hL, r'⟩) hok I.bare
/-- behind a call (or a comprehension's block): the slots of this frame may have changed too, the records at ch may have turned -/
theorem Inv.call {g' : Array GenState} {t' : Nat} {d' : Drawn} {ch : List Addr} (I : Inv X pins σ H s) (u : Un (frs X.stack) ch H H' s.heap h') (hok : HOk X.prog X.w H' h') (hg : AllBare g')
    (hch : ∀ b ∈ ch, (b ∈ X.ex ∨ X.s_0.heap.objs.size ≤ b) ∧ b ≠ X.env.locals ∧ (∀ x c, X.env.cells.lookup x = some c → c ≠ b) ∧ ∀ p ∈ X.pn ++ pins, p.1 ≠ b) :
    Inv X pins σ H' { s with heap := h', gens := g', drawn := d', toks := t' } := by
  obtain ⟨m, ⟨o, es, ep, ho, r⟩, _⟩ := id I.loc
  obtain ⟨sl, hL⟩ := u.any ho I.free fun z => (hch _ z).2.1 rfl
  exact I.step (ch := ch) hch (fun b o hL hb hc e n => u.keep b o e n (fun z => (List.mem_cons.mp (I.stkSub b z)).elim hL hb) hc) (fun b o _ _ hc e n => u.any e n hc) (fun b o hc e n => u.free b o e n hc) (fun b o hc e => u.there b o e hc) u.tups u.frzs u.tbls (fun m' hm => by
    obtain ⟨o', es', ep', ho', r'⟩ := hm
    rw [ho] at ho'; cases ho'
    exact ⟨_, es', ep', hL, r'⟩) hok hg
/-- an untracked record of ours (an iterator) has turned -/
theorem Inv.turned {t' : Nat} {it : Addr} (I : Inv X pins σ H s) (k : ∀ b o, b ≠ it → s.heap.get? b = some o → h'.get? b = some o) (hn : H it = none) (hL : it ≠ X.env.locals)
    (h1 : it ∈ X.ex ∨ X.s_0.heap.objs.size ≤ it) (h2 : ∀ x c, X.env.cells.lookup x = some c → c ≠ it) (h3 : ∀ p ∈ X.pn ++ pins, p.1 ≠ it) : Inv X pins σ H { s with heap := h', toks := t' } := by
  have nit : ∀ b u, H b = some u → b ≠ it := fun b u e z => by rw [z, hn] at e; cases e
  refine I.step (g' := s.gens) (d' := s.drawn) (ch := [it]) (fun b hb => ?_) (fun b o _ _ hc e _ => k b o (fun z => hc (by simp [z])) e) (fun b o _ _ hc e _ => ⟨o.slots, k b o (fun z => hc (by simp [z])) e⟩) (fun _ _ _ _ n => n)
    (fun b o hc e => ⟨o, k b o (fun z => hc (by simp [z])) e⟩) (fun _ _ e => e) (fun _ _ _ e => e) (fun b ps e => ⟨#[], by rw [e]; simp⟩) (fun m hm => ?_) (fun b u e => ?_) I.bare
  · have e : b = it := by simpa using hb
    subst e
    exact ⟨h1, hL, h2, h3⟩
  · obtain ⟨o, es, ep, ho, r⟩ := hm
    exact ⟨o, es, ep, k _ o (Ne.symm hL) ho, r⟩
  · refine (I.hok b u e).stay (fun c v hc q => k c v ?_ q) (fun _ q => q) fun _ _ q => q
    rcases hc with z | z
    · rw [z]; exact nit b u e
    · exact nit c _ z
theorem Inv.tok (I : Inv X pins σ H s) (t : Nat) : Inv X pins σ H { s with toks := t } := I.un (h' := s.heap) (t' := t) Un.refl I.hok
/-- all objects kept -/
theorem Inv.kept {t' : Nat} (I : Inv X pins σ H s) (k : ∀ b u, s.heap.get? b = some u → h'.get? b = some u) : Inv X pins σ H { s with heap := h', toks := t' } := I.un (Un.kept k) (I.hok.kept k)
/-- a new object laid and tracked -/
theorem Inv.laid {a : Addr} {o : HO} {t' : Nat} (I : Inv X pins σ H s) (k : ∀ b u, s.heap.get? b = some u → h'.get? b = some u) (hp : s.heap.objs.size ≤ a) (new : ObjOk X.prog X.w (upd H a o) h' a o) :
    Inv X pins σ (upd H a o) { s with heap := h', toks := t' } := I.un (Un.laid k hp (I.hok.fresh hp)) (I.hok.laid k hp new)
/-- an object written -/
theorem Inv.write {x e : Addr} {o : HO} {t' : Nat} (I : Inv X pins σ H s) (mu : Mut (H x)) (he : e = x ∨ H e = some (.own x)) (k : ∀ b u, b ≠ e → s.heap.get? b = some u → h'.get? b = some u) (heo : ∃ u, h'.get? e = some u)
    (new : ObjOk X.prog X.w (upd H x o) h' x o) : Inv X pins σ (upd H x o) { s with heap := h', toks := t' } := I.un (Un.write mu he k heo) (I.hok.write mu he k heo new)
/-- forgetting slots, pins -/
theorem Inv.weak {σ' : List (Option V)} (I : Inv X pins σ H s) (hl : σ'.length = σ.length) (w : ∀ (i : Nat) v, σ'[i]? = some (some v) → σ[i]? = some (some v)) : Inv X pins σ' H s :=
  ⟨I.ok, I.os, I.bare, I.base, let ⟨m, hn, hl'⟩ := I.loc; ⟨m, hn, fun i x v e1 e2 e3 => hl' i x v e1 (w i v e2) e3⟩, I.cell, I.free, I.freeC, I.pin, I.hok, hl.trans I.len⟩
theorem Inv.pins_of {pins' : List (Addr × Obj)} (I : Inv X pins σ H s) (h : ∀ p ∈ pins', s.heap.get? p.1 = some p.2 ∧ H p.1 = none ∧ p.1 ≠ X.env.locals ∧ p.1 ∉ X.fs ∧ ∀ v, p.2.data ≠ .cell v) : Inv X pins' σ H s :=
  ⟨I.ok, I.os, I.bare, I.base, I.loc, I.cell, I.free, I.freeC, fun p hp => (List.mem_append.mp hp).elim (fun z => I.pin p (List.mem_append_left _ z)) (h p), I.hok, I.len⟩

theorem nodup_ix {N : List Str} (hN : N.Nodup) {i j : Nat} {x : Str} (a : N[i]? = some x) (b : N[j]? = some x) : i = j := by
  obtain ⟨h1, e1⟩ := List.getElem?_eq_some_iff.mp a
  obtain ⟨h2, e2⟩ := List.getElem?_eq_some_iff.mp b
  exact (List.getElem_inj hN).mp (e1.trans e2.symm)

/-- a name is stored; what changed -/
theorem store_ok2 {M : Model} {A : Around} {E : Value → Shared → Prop} {i : Nat} {x : Str} {v : V} {u : Value} {Q : Unit → Shared → Prop} (I : Inv X pins σ H s) (hN : X.N.Nodup) (hi : X.N[i]? = some x) (hx : Loc X.env.scope x) (r : RelV v u)
    (h : ∀ s', Inv X pins (σ.set i (some v)) H s' → (∃ a, Heap.SameBut a s.heap s'.heap ∧ (a = X.env.locals ∨ X.env.cells.lookup x = some a)) → Q () s') (hf : X.fn x = true ∨ X.env.scope.names.lookup x = some .local := by first | exact .inl rfl | exact .inr rfl | assumption) : wpAny M A (storeName X.env x u) Q E s := by
  obtain ⟨m, hn, hl⟩ := id I.loc
  have hcls : (X.env.scope.kind == .class || (X.env.scope.kind == .module && X.env.locals != X.env.globals)) = false := by rw [I.ok.kind]; rfl
  have hiσ : i < σ.length := by rw [I.len]; exact (List.getElem?_eq_some_iff.mp hi).1
  have cne := I.cne
  have tracked : ∀ {a : Addr} {h' : Heap}, (∃ o, s.heap.get? a = some o ∧ H a = none) → Heap.SameBut a s.heap h' → HOk X.prog X.w H h' := fun {a h'} ha hs b ob e => by
    obtain ⟨_, _, hfree⟩ := ha
    refine (I.hok b ob e).stay (fun c w' hc q => (hs.2 c ?_).trans q) (fun _ q => q) fun _ _ q => q
    rintro rfl
    rcases hc with rfl | hc
    · rw [hfree] at e; cases e
    · rw [hfree] at hc; cases hc
  rcases hx with hk | hk
  · refine wpAny_storeName_local hk hn (fun h' hn' hs => ?_) hcls
    obtain ⟨oL, _, _, hoL, _⟩ := id hn
    refine h _ ⟨I.ok, I.os, I.bare, ⟨fun b o e n hb hx => ?_, fun b o e n hb hx => ?_, I.base.free, fun b o e hx => ?_, I.base.tups, I.base.frzs, I.base.tbls⟩, ⟨_, hn', fun j y v' e1 e2 e3 => ?_⟩, fun y c e => ?_, I.free, I.freeC, fun p hp => ?_, tracked ⟨oL, hoL, I.free⟩ hs, by simpa using I.len⟩ ⟨_, hs, .inl rfl⟩
    · exact (hs.2 b (Nat.ne_of_lt (Nat.lt_of_lt_of_le (Heap.lt_size e) I.ok.above))).trans (I.base.keep b o e n hb hx)
    · obtain ⟨sl, e1⟩ := I.base.slot b o e n hb hx
      exact ⟨sl, (hs.2 b (Nat.ne_of_lt (Nat.lt_of_lt_of_le (Heap.lt_size e) I.ok.above))).trans e1⟩
    · obtain ⟨o', e1⟩ := I.base.there b o e hx
      exact ⟨o', (hs.2 b (Nat.ne_of_lt (Nat.lt_of_lt_of_le (Heap.lt_size e) I.ok.above))).trans e1⟩
    · by_cases hj : j = i
      · subst hj
        rw [hi] at e1; cases e1
        rw [List.getElem?_set_self hiσ] at e2
        cases e2
        exact ⟨u, r, .inl ⟨hk, by simp⟩⟩
      · rw [List.getElem?_set_ne (Ne.symm hj)] at e2
        obtain ⟨u', r', q⟩ := hl j y v' e1 e2 e3
        refine ⟨u', r', ?_⟩
        rcases q with ⟨k, e⟩ | ⟨k, c, e, z⟩
        · refine .inl ⟨k, ?_⟩
          have : y ≠ x := fun e => hj (nodup_ix hN e1 (e ▸ hi))
          simp [this, e]
        · exact .inr ⟨k, c, e, z.sameBut hs (cne y c e)⟩
    · obtain ⟨w', z⟩ := I.cell y c e
      exact ⟨w', z.sameBut hs (cne y c e)⟩
    · obtain ⟨e, n, ne, nf, d⟩ := I.pin p hp
      exact ⟨(hs.2 p.1 ne).trans e, n, ne, nf, d⟩
  · have hfn : X.fn x = true := by
      rcases hf with z | z
      · exact z
      · rw [z] at hk; cases hk
    obtain ⟨c, hc⟩ := I.ok.has x (.inl hk)
    obtain ⟨w', z⟩ := I.cell x c hc
    refine wpAny_storeName_cell I.ok.kind hk hc z (fun h' hc' hs => ?_)
    obtain ⟨oc, hoc, hocd⟩ := id z
    refine h { s with heap := h' } ⟨I.ok, I.os, I.bare, ⟨fun b o e n hb hx => ?_, fun b o e n hb hx => ?_, I.base.free, fun b o e hx => ?_, I.base.tups, I.base.frzs, I.base.tbls⟩, ⟨m, hn.sameBut hs (Ne.symm (cne x c hc)), fun j y v' e1 e2 e3 => ?_⟩, fun y c' e => ?_, I.free, I.freeC, fun p hp => ?_, tracked ⟨oc, hoc, I.freeC x c hc⟩ hs, by simpa using I.len⟩ ⟨c, hs, .inr hc⟩
    · exact (hs.2 b (Nat.ne_of_lt (Nat.lt_of_lt_of_le (Heap.lt_size e) (I.ok.cab x c hfn hc)))).trans (I.base.keep b o e n hb hx)
    · obtain ⟨sl, e1⟩ := I.base.slot b o e n hb hx
      exact ⟨sl, (hs.2 b (Nat.ne_of_lt (Nat.lt_of_lt_of_le (Heap.lt_size e) (I.ok.cab x c hfn hc)))).trans e1⟩
    · obtain ⟨o', e1⟩ := I.base.there b o e hx
      exact ⟨o', (hs.2 b (Nat.ne_of_lt (Nat.lt_of_lt_of_le (Heap.lt_size e) (I.ok.cab x c hfn hc)))).trans e1⟩
    · by_cases hj : j = i
      · subst hj
        rw [hi] at e1; cases e1
        rw [List.getElem?_set_self hiσ] at e2
        cases e2
        exact ⟨u, r, .inr ⟨.inl hk, c, hc, hc'⟩⟩
      · rw [List.getElem?_set_ne (Ne.symm hj)] at e2
        obtain ⟨u', r', q⟩ := hl j y v' e1 e2 e3
        refine ⟨u', r', ?_⟩
        rcases q with q | ⟨k, c', e, z'⟩
        · exact .inl q
        · refine .inr ⟨k, c', e, z'.sameBut hs ?_⟩
          rintro rfl
          exact hj (nodup_ix hN e1 (I.ok.inj _ _ _ e hc ▸ hi))
    · by_cases hcc : c' = c
      · subst hcc; exact ⟨_, hc'⟩
      · obtain ⟨w2, z2⟩ := I.cell y c' e
        exact ⟨w2, z2.sameBut hs hcc⟩
    · obtain ⟨e, n, ne, nf, d⟩ := I.pin p hp
      refine ⟨(hs.2 p.1 ?_).trans e, n, ne, nf, d⟩
      intro q
      rw [q, hoc] at e
      have q' : oc = p.2 := Option.some.inj e
      exact d w' (by rw [← q']; exact hocd)
theorem store_ok {M : Model} {A : Around} {E : Value → Shared → Prop} {i : Nat} {x : Str} {v : V} {u : Value} {Q : Unit → Shared → Prop} (I : Inv X pins σ H s) (hN : X.N.Nodup) (hi : X.N[i]? = some x) (hx : Loc X.env.scope x) (r : RelV v u)
    (h : ∀ s', Inv X pins (σ.set i (some v)) H s' → Q () s') (hf : X.fn x = true ∨ X.env.scope.names.lookup x = some .local := by first | exact .inl rfl | exact .inr rfl | assumption) : wpAny M A (storeName X.env x u) Q E s :=
  store_ok2 I hN hi hx r (fun s' I' _ => h s' I') hf
/-- behind a call or a block, the state as it is -/
theorem Inv.call' {s' : Shared} {ch : List Addr} (I : Inv X pins σ H s) (ho : s'.os = s.os) (u : Un (frs X.stack) ch H H' s.heap s'.heap) (hok : HOk X.prog X.w H' s'.heap) (hg : AllBare s'.gens)
    (hch : ∀ b ∈ ch, (b ∈ X.ex ∨ X.s_0.heap.objs.size ≤ b) ∧ b ≠ X.env.locals ∧ (∀ x c, X.env.cells.lookup x = some c → c ≠ b) ∧ ∀ p ∈ X.pn ++ pins, p.1 ≠ b) : Inv X pins σ H' s' := by
  obtain ⟨h', g', d', t', o'⟩ := s'
  have e : o' = s.os := ho
  subst e
  exact I.call (g' := g') (t' := t') (d' := d') u hok hg hch
end

/-! ### the judgements -/
/-- an exception: its class, its own dict's address (where it has one), the abstract heap behind it -/
abbrev XK := Value → Option Addr → Hp → Prop
abbrev St := List (Option V)
abbrev VK := V → Hp → Prop
/-- an expression's reading; a test's; an argument list's -/
abbrev TE := St → Hp → VK → Prop
abbrev TT := St → Hp → (Bool → Hp → Prop) → Prop
abbrev TA := St → Hp → (List V → Hp → Prop) → Prop
/-- what is wanted behind a statement -/
structure Ends where
  nx : St → Hp → Prop
  rt : VK
  bk : St → Hp → Prop := fun _ _ => False
  ct : St → Hp → Prop := fun _ _ => False
abbrev TS := Ends → St → Hp → Prop

def EP (X : Cx) (pins : List (Addr × Obj)) (σ : St) (Q : VK) (u : Value) (s' : Shared) : Prop := ∃ v H', Inv X pins σ H' s' ∧ RelV v u ∧ Q v H'
def TP (X : Cx) (pins : List (Addr × Obj)) (σ : St) (Q : Bool → Hp → Prop) (b : Bool) (s' : Shared) : Prop := ∃ H', Inv X pins σ H' s' ∧ Q b H'
def AP (X : Cx) (pins : List (Addr × Obj)) (σ : St) (Q : List V → Hp → Prop) (us : List Value) (s' : Shared) : Prop := ∃ vs H', Inv X pins σ H' s' ∧ Vals vs us ∧ Q vs H'
def SP (X : Cx) (pins : List (Addr × Obj)) (D : Ends) (f : Flow) (s' : Shared) : Prop :=
  match f with
  | .next => ∃ σ' H', Inv X pins σ' H' s' ∧ D.nx σ' H'
  | .brk => ∃ σ' H', Inv X pins σ' H' s' ∧ D.bk σ' H'
  | .cont => ∃ σ' H', Inv X pins σ' H' s' ∧ D.ct σ' H'
  | .ret u => ∃ v σ' H', Inv X pins σ' H' s' ∧ RelV v u ∧ D.rt v H'

def PE (X : Cx) (e : Expr) (t : TE) : Prop :=
  ∀ (pins : List (Addr × Obj)) (s : Shared) (σ : St) (H : Hp) (Q : VK), Inv X pins σ H s → t σ H Q → wpAny (model X.prog X.w) X.A (eval e X.env) (EP X pins σ Q) X.xe s
def PT (X : Cx) (e : Expr) (t : TT) : Prop :=
  ∀ (pins : List (Addr × Obj)) (s : Shared) (σ : St) (H : Hp) (Q : Bool → Hp → Prop), Inv X pins σ H s → t σ H Q → wpAny (model X.prog X.w) X.A (isTrue e X.env (eval e X.env)) (TP X pins σ Q) X.xe s
/-- a test whatever its 'whole' is (and, or) -/
def PW (X : Cx) (e : Expr) (t : TT) : Prop :=
  ∀ (whole : Sem Value) (pins : List (Addr × Obj)) (s : Shared) (σ : St) (H : Hp) (Q : Bool → Hp → Prop), Inv X pins σ H s → t σ H Q → wpAny (model X.prog X.w) X.A (isTrue e X.env whole) (TP X pins σ Q) X.xe s
theorem PW.pt {X : Cx} {e : Expr} {t : TT} (h : PW X e t) : PT X e t := h _
/-- an argument list (no star), from the left -/
def PA (X : Cx) (es : List Expr) (t : TA) : Prop :=
  ∀ (pos : Pos) (pins : List (Addr × Obj)) (s : Shared) (σ : St) (H : Hp) (Q : List V → Hp → Prop), Inv X pins σ H s → t σ H Q → wpAny (model X.prog X.w) X.A (spliced (backTo pos (starEach es X.env))) (AP X pins σ Q) X.xe s
def PS (X : Cx) (st : Stmt) (t : TS) : Prop :=
  ∀ (pins : List (Addr × Obj)) (s : Shared) (σ : St) (H : Hp) (D : Ends), Inv X pins σ H s → t D σ H → wpAny (model X.prog X.w) X.A (exec st X.env) (SP X pins D) X.xe s
def PSs (X : Cx) (st : List Stmt) (t : TS) : Prop :=
  ∀ (pins : List (Addr × Obj)) (s : Shared) (σ : St) (H : Hp) (D : Ends), Inv X pins σ H s → t D σ H → wpAny (model X.prog X.w) X.A (execs st X.env) (SP X pins D) X.xe s
/-- weaken the end -/
theorem thn {α : Type} {t : Sem α} {Q Q' : α → Shared → Prop} {M : Model} {A : Around} {E : Value → Shared → Prop} {s : Shared} (h : wpAny M A t Q E s) (hQ : ∀ a s, Q a s → Q' a s) : wpAny M A t Q' E s := wpAny_mono h hQ fun _ _ x => x
end L2

namespace L2
open PySem PySem.Spec PyProof.Rows
section
variable {X : Cx}


/-! ### names and constants -/
def tVar (i : Nat) : TE := fun σ H Q => ∃ v, σ[i]? = some (some v) ∧ Q v H
def tC (v : V) : TE := fun _ H Q => Q v H
theorem pe_var {i : Nat} {x : Str} {pos : Pos} (hN : X.N[i]? = some x) (hv : Vis X.env.scope x) (hd : (x == ("__debug__" : Str)) = false := by decide) (hcd : (x == ("__classdict__" : Str)) = false := by decide) : PE X (.Name x pos) (tVar i) := by
  intro pins s σ H Q I h
  obtain ⟨v, e, h⟩ := h
  obtain ⟨m, hn, hl⟩ := I.loc
  obtain ⟨u, r, l⟩ := hl i x v hN e hv
  have fin : EP X pins σ Q u s := ⟨v, H, I, r, h⟩
  rcases l with ⟨hk, hm⟩ | ⟨hk, c, hc, hcell⟩
  · exact wpAny_Name (wpAny_loadName_local I.ok.kind hk hn hm fin) hd
  · rcases hk with hk | hk
    · exact wpAny_Name (wpAny_loadName_cell I.ok.kind hk hc hcell fin) hd
    · exact wpAny_Name (wpAny_loadName_free I.ok.kind hk hc hcell fin hcd) hd
theorem pe_int {i j pos} : PE X (.Constant (.int i) j pos) (tC (.int i)) := fun _ _ _ H _ I h => wpAny_Constant_int ⟨.int i, H, I.tok _, ⟨_, rfl⟩, h⟩
theorem pe_bl {b j pos} : PE X (.Constant (.bool b) j pos) (tC (.bl b)) := fun _ _ _ H _ I h => Constant_bool ⟨.bl b, H, I, rfl, h⟩
theorem pe_non {j pos} : PE X (.Constant .none j pos) (tC .non) := fun _ _ _ H _ I h => Constant_none ⟨.non, H, I, rfl, h⟩

/-- a global name of the def -/
def Gl (X : Cx) (x : Str) : Prop := X.env.kindOf x = some .globalImplicit
theorem ld_glob {E : Value → Shared → Prop} {pins : List (Addr × Obj)} {s : Shared} {σ : St} {H : Hp} {x : Str} {u : Value} {pos : Pos} {Q : Value → Shared → Prop} (I : Inv X pins σ H s) (hg : Gl X x) (hm : X.mg x = some u) (h : Q u s)
    (hd : (x == ("__debug__" : Str)) = false := by decide) : wpAny (model X.prog X.w) X.A (eval (.Name x pos) X.env) Q E s :=
  Calls.Name_function_global I.ok.kind hg (Calls.loadGlobal_global (by rw [I.ok.glob]; exact I.mod.glob.keeps I.bk) hm h) hd
theorem ld_blt {E : Value → Shared → Prop} {pins : List (Addr × Obj)} {s : Shared} {σ : St} {H : Hp} {x : Str} {u : Value} {pos : Pos} {Q : Value → Shared → Prop} (I : Inv X pins σ H s) (hg : Gl X x) (hm : X.mg x = none) (hv : bootBuiltins x = some u) (h : Q u s)
    (hn : x ≠ "__name__" := by decide) (hd : (x == ("__debug__" : Str)) = false := by decide) : wpAny (model X.prog X.w) X.A (eval (.Name x pos) X.env) Q E s := by
  obtain ⟨mb, h1, h2⟩ := I.mod.blt
  exact Calls.Name_function_global I.ok.kind hg (Calls.loadGlobal_builtin (by rw [I.ok.glob]; exact I.mod.glob.keeps I.bk) hm (by rw [I.ok.blt]; exact h1.keeps I.bk) ((h2 x hn).trans hv) h) hd
/-- a module's constant, a class, a function, as a value -/
theorem pe_glob {x : Str} {v : V} {u : Value} {pos : Pos} (hg : Gl X x) (hm : X.mg x = some u) (r : RelV v u) (hd : (x == ("__debug__" : Str)) = false := by decide) : PE X (.Name x pos) (tC v) :=
  fun _ _ _ H _ I h => ld_glob I hg hm ⟨v, H, I, r, h⟩ hd

/-! ### arithmetic -/
/-- two ints -/
def t2I (ta tb : TE) (k : Int → Int → Hp → Prop) : St → Hp → Prop := fun σ H => ta σ H fun x H1 => tb σ H1 fun y H2 => ∃ i j, x = .int i ∧ y = .int j ∧ k i j H2
def tAdd (ta tb : TE) : TE := fun σ H Q => t2I ta tb (fun i j H2 => Q (.int (i + j)) H2) σ H
def tSub (ta tb : TE) : TE := fun σ H Q => t2I ta tb (fun i j H2 => Q (.int (i - j)) H2) σ H
/-- the left factor below 2^64 -/
def tMul (ta tb : TE) : TE := fun σ H Q => t2I ta tb (fun i j H2 => (-(2 ^ 64) < i ∧ i < 2 ^ 64) ∧ Q (.int (i * j)) H2) σ H
variable {a b : Expr} {ta tb : TE} {pos : Pos}

/-! ### comparisons -/
def PC (X : Cx) (op : CmpOp) (a b : Expr) (t : TE) : Prop :=
  ∀ (pins : List (Addr × Obj)) (s : Shared) (σ : St) (H : Hp) (Q : VK), Inv X pins σ H s → t σ H Q →
    wpAny (model X.prog X.w) X.A (eval a X.env) (fun v s₁ => wpAny (model X.prog X.w) X.A (eval b X.env) (fun u s₂ => wpAny (model X.prog X.w) X.A (compareOp op v u) (EP X pins σ Q) X.xe s₂) X.xe s₁) X.xe s
def tCmp (p : Int → Int → Bool) (ta tb : TE) : TE := fun σ H Q => t2I ta tb (fun i j H2 => Q (.bl (p i j)) H2) σ H
abbrev tLt : TE → TE → TE := tCmp fun i j => decide (i < j)
abbrev tLe : TE → TE → TE := tCmp fun i j => decide (i ≤ j)
abbrev tGt : TE → TE → TE := tCmp fun i j => decide (j < i)
abbrev tGe : TE → TE → TE := tCmp fun i j => decide (j ≤ i)
abbrev tEqI : TE → TE → TE := tCmp fun i j => decide (i = j)
abbrev tNeI : TE → TE → TE := tCmp fun i j => !decide (i = j)
/-- is None -/
def tIsN (ta : TE) : TE := fun σ H Q => ta σ H fun x H1 => Q (.bl (decide (x = .non))) H1
def tNotN (ta : TE) : TE := fun σ H Q => ta σ H fun x H1 => Q (.bl (!decide (x = .non))) H1
/-- a comparison as a value, as a test -/
def tB (t : TE) : TT := fun σ H Q => t σ H fun x H1 => ∃ c, x = .bl c ∧ Q c H1
/-- an expression whose value is a bool, as a test -/
theorem pt_val {e : Expr} {t : TE} (h : PE X e t) (he : ∀ whole, isTrue e X.env whole = (do let v ← whole; standAt e.pos; holding [v] (truthy v)) := by intro _; rfl) : PT X e (tB t) := by
  intro pins s σ H Q I hw
  refine isTrue_plain (thn (h pins s σ H _ I hw) fun v s1 ⟨x, H1, I1, r1, q1⟩ => ?_) (he _)
  obtain ⟨d, rfl, q⟩ := q1
  cases r1
  exact wpAny_truthy_bool ⟨H1, I1, q⟩

/-! ### and, or, not -/
variable {tA tB' : TT} {rest : List Expr}
def tAnd (t u : TT) : TT := fun σ H Q => t σ H fun c H1 => if c = true then u σ H1 Q else Q false H1
def tOr (t u : TT) : TT := fun σ H Q => t σ H fun c H1 => if c = true then Q true H1 else u σ H1 Q
def tNot (t : TT) : TT := fun σ H Q => t σ H fun c H1 => Q (!c) H1
theorem pw_and1 (ha : PT X a tA) : PW X (.BoolOp .And [a] pos) tA := by
  intro wh pins s σ H Q I h
  refine isTrue_and (thn (ha pins s σ H Q I h) fun c s1 e => ?_)
  cases c with
  | true => exact isTrue_and_nil e
  | false => exact e
theorem pw_or1 (ha : PT X a tA) : PW X (.BoolOp .Or [a] pos) tA := by
  intro wh pins s σ H Q I h
  refine isTrue_or (thn (ha pins s σ H Q I h) fun c s1 e => ?_)
  cases c with
  | false => exact isTrue_or_nil e
  | true => exact e
theorem pw_and (ha : PT X a tA) (hb : PW X (.BoolOp .And (b :: rest) pos) tB') : PW X (.BoolOp .And (a :: b :: rest) pos) (tAnd tA tB') := by
  intro wh pins s σ H Q I h
  refine isTrue_and (thn (ha pins s σ H _ I h) fun c s1 ⟨H1, I1, q1⟩ => ?_)
  cases c with
  | true => exact hb wh pins s1 σ H1 Q I1 q1
  | false => exact ⟨H1, I1, q1⟩
theorem pw_or (ha : PT X a tA) (hb : PW X (.BoolOp .Or (b :: rest) pos) tB') : PW X (.BoolOp .Or (a :: b :: rest) pos) (tOr tA tB') := by
  intro wh pins s σ H Q I h
  refine isTrue_or (thn (ha pins s σ H _ I h) fun c s1 ⟨H1, I1, q1⟩ => ?_)
  cases c with
  | true => exact ⟨H1, I1, q1⟩
  | false => exact hb wh pins s1 σ H1 Q I1 q1
theorem pt_not (ha : PT X a tA) : PT X (.UnaryOp .Not a pos) (tNot tA) := by
  intro pins s σ H Q I h
  exact isTrue_not (ha pins s σ H (fun c H1 => Q (!c) H1) I h)
/-- .. as values (bools) -/
def tAndV (ta tb : TE) : TE := fun σ H Q => ta σ H fun x H1 => ∃ c, x = .bl c ∧ if c = true then tb σ H1 Q else Q (.bl false) H1
def tOrV (ta tb : TE) : TE := fun σ H Q => ta σ H fun x H1 => ∃ c, x = .bl c ∧ if c = true then Q (.bl true) H1 else tb σ H1 Q
def tNotV (ta : TE) : TE := fun σ H Q => ta σ H fun x H1 => ∃ c, x = .bl c ∧ Q (.bl (!c)) H1
theorem pe_one {op} {t : TE} (h : PE X a t) : PE X (.BoolOp op [a] pos) t := fun pins s σ H Q I hw => BoolOp_one (h pins s σ H Q I hw)
theorem pe_and (ha : PE X a ta) (hb : PE X (.BoolOp .And (b :: rest) pos) tb) : PE X (.BoolOp .And (a :: b :: rest) pos) (tAndV ta tb) := by
  intro pins s σ H Q I h
  refine BoolOp_and (thn (ha pins s σ H _ I h) fun v s1 ⟨x, H1, I1, r1, q1⟩ => ?_)
  obtain ⟨c, rfl, q1⟩ := q1
  cases r1
  refine wpAny_truthy_bool ?_
  cases c with
  | true => exact hb pins s1 σ H1 Q I1 q1
  | false => exact ⟨.bl false, H1, I1, rfl, q1⟩
theorem pe_or (ha : PE X a ta) (hb : PE X (.BoolOp .Or (b :: rest) pos) tb) : PE X (.BoolOp .Or (a :: b :: rest) pos) (tOrV ta tb) := by
  intro pins s σ H Q I h
  refine BoolOp_or (thn (ha pins s σ H _ I h) fun v s1 ⟨x, H1, I1, r1, q1⟩ => ?_)
  obtain ⟨c, rfl, q1⟩ := q1
  cases r1
  refine wpAny_truthy_bool ?_
  cases c with
  | false => exact hb pins s1 σ H1 Q I1 q1
  | true => exact ⟨.bl true, H1, I1, rfl, q1⟩
/-- a if t else b -/
def tIf (t : TT) (ta tb : TE) : TE := fun σ H Q => t σ H fun c H1 => if c = true then ta σ H1 Q else tb σ H1 Q
theorem pe_ifExp {c : Expr} (hc : PT X c tA) (ha : PE X a ta) (hb : PE X b tb) : PE X (.IfExp c a b pos) (tIf tA ta tb) := by
  intro pins s σ H Q I h
  refine wpAny_IfExp (thn (hc pins s σ H _ I h) fun d s1 ⟨H1, I1, q1⟩ => ?_)
  cases d with
  | true => exact ha pins s1 σ H1 Q I1 q1
  | false => exact hb pins s1 σ H1 Q I1 q1
end
end L2

namespace L2
open PySem PySem.Spec PyProof.Rows

/-! ### a list, a tuple that is read: tracked, frozen, or an object of the module -/
def SqL (K : PySem.W.Frag) (H : Hp) (a : Addr) (xs : List V) : Prop :=
  Rd H a (.lst xs) ∨
    ∃ (o : Obj) (its : Array Value) (n : Nat), K.lookup a = some o ∧ o.cls = .type "list" ∧ o.dict = none ∧ o.data = .seq its n ∧ its.size ≤ sizeLine ∧ Vals xs its.toList
def SqT (K : PySem.W.Frag) (H : Hp) (a : Addr) (xs : List V) : Prop :=
  Rd H a (.tup xs) ∨
    ∃ (o : Obj) (its : Array Value) (n : Nat), K.lookup a = some o ∧ o.cls = .type "tuple" ∧ o.data = .seq its n ∧ its.size ≤ sizeLine ∧ Vals xs its.toList
def absV : Value → Option V
  | .none => some .non
  | .bool b => some (.bl b)
  | .int i _ => some (.int i)
  | .str x _ => some (.str x)
  | .bytes b _ => some (.byt b)
  | .float b _ => some (.flt b)
  | .ref a => some (.ref a)
  | .type n => some (.ty n)
  | _ => none
theorem RelV.abs {x : V} {u : Value} (r : RelV x u) : absV u = some x := by
  cases x with
  | non => cases r; rfl
  | bl _ => cases r; rfl
  | int _ => obtain ⟨t, rfl⟩ := r; rfl
  | str _ => obtain ⟨t, rfl⟩ := r; rfl
  | byt _ => obtain ⟨t, rfl⟩ := r; rfl
  | flt _ => obtain ⟨t, rfl⟩ := r; rfl
  | ref _ => cases r; rfl
  | ty _ => cases r; rfl
theorem RelV.inj {x y : V} {u : Value} (r : RelV x u) (q : RelV y u) : x = y := Option.some.inj (r.abs.symm.trans q.abs)
theorem Vals.inj : ∀ {xs ys : List V} {us : List Value}, Vals xs us → Vals ys us → xs = ys
  | _, _, _, .nil, .nil => rfl
  | _, _, _, .cons r t, .cons r' t' => by rw [r.inj r', Vals.inj t t']
section
variable {X : Cx} {pins : List (Addr × Obj)} {σ : St} {H : Hp} {s : Shared} {a : Addr} {xs ys : List V}
theorem SqL.of {K : PySem.W.Frag} (h : H a = some (.lst xs)) : SqL K H a xs := .inl (.inl h)
theorem SqT.of {K : PySem.W.Frag} (h : H a = some (.tup xs)) : SqT K H a xs := .inl (.inl h)
theorem Inv.list (I : Inv X pins σ H s) (h : SqL X.K H a xs) : ∃ its : List Value, Vals xs its ∧ PlainL s.heap a its.toArray ∧ xs.length ≤ sizeLine := by
  rcases h with h | ⟨o, its, n, hk, hc, hd, hs, hz, r⟩
  · obtain ⟨z, its, n, r, e⟩ := h.ok I.hok
    exact ⟨its, r, ⟨_, n, e, rfl, rfl, rfl⟩, z⟩
  · refine ⟨its.toList, r, ⟨o, n, I.kIn a o hk, hc, hd, by simpa using hs⟩, ?_⟩
    have e := r.length
    simp only [Array.length_toList] at e
    omega
theorem Inv.tuple (I : Inv X pins σ H s) (h : SqT X.K H a xs) : ∃ its : List Value, Vals xs its ∧ IsTup s.heap a its.toArray ∧ xs.length ≤ sizeLine := by
  rcases h with h | ⟨o, its, n, hk, hc, hs, hz, r⟩
  · obtain ⟨z, its, r, p⟩ := h.ok I.hok
    exact ⟨its, r, p, z⟩
  · refine ⟨its.toList, r, ⟨o, I.kIn a o hk, hc, n, by simpa using hs⟩, ?_⟩
    have e := r.length
    simp only [Array.length_toList] at e
    omega
theorem Inv.list_inj (I : Inv X pins σ H s) (h : SqL X.K H a xs) (h' : SqL X.K H a ys) : xs = ys := by
  obtain ⟨its, r, ⟨o, n, e, _, _, d⟩, _⟩ := I.list h
  obtain ⟨its', r', ⟨o', n', e', _, _, d'⟩, _⟩ := I.list h'
  rw [e] at e'; cases e'
  rw [d] at d'
  injection d' with d1 _
  have : its = its' := by simpa using congrArg Array.toList d1
  subst this
  exact r.inj r'
theorem Inv.tuple_inj (I : Inv X pins σ H s) (h : SqT X.K H a xs) (h' : SqT X.K H a ys) : xs = ys := by
  obtain ⟨its, r, ⟨o, e, _, n, d⟩, _⟩ := I.tuple h
  obtain ⟨its', r', ⟨o', e', _, n', d'⟩, _⟩ := I.tuple h'
  rw [e] at e'; cases e'
  rw [d] at d'
  injection d' with d1 _
  have : its = its' := by simpa using congrArg Array.toList d1
  subst this
  exact r.inj r'
end

/-! ### another wish about exceptions -/
abbrev Cx.wish (X : Cx) (E : Value → Shared → Prop) : Cx := { X with xe := E }
/-- no exception leaves -/
abbrev Cx.nox (X : Cx) : Cx := X.wish fun _ _ => False
theorem Cx.Ok.wish {X : Cx} (ok : X.Ok) (E : Value → Shared → Prop) : (X.wish E).Ok :=
  ⟨ok.mod, ok.kind, ok.glob, ok.blt, ok.above, ok.inj, ok.has, ok.cab, ok.hd, ok.frames, ok.stk, ok.exf, ok.bs, ok.bsz, ok.noex, ok.exfs, ok.funs, ok.frf⟩
theorem Cx.Ok.unwish {X : Cx} {E : Value → Shared → Prop} (ok : (X.wish E).Ok) : X.Ok :=
  ⟨ok.mod, ok.kind, ok.glob, ok.blt, ok.above, ok.inj, ok.has, ok.cab, ok.hd, ok.frames, ok.stk, ok.exf, ok.bs, ok.bsz, ok.noex, ok.exfs, ok.funs, ok.frf⟩
section
variable {X : Cx} {pins : List (Addr × Obj)} {σ : St} {H : Hp} {s : Shared} {E : Value → Shared → Prop}
theorem Inv.wish (I : Inv X pins σ H s) (E : Value → Shared → Prop) : Inv (X.wish E) pins σ H s := ⟨I.ok.wish E, I.os, I.bare, I.base, I.loc, I.cell, I.free, I.freeC, I.pin, I.hok, I.len⟩
theorem Inv.unwish (I : Inv (X.wish E) pins σ H s) : Inv X pins σ H s := ⟨I.ok.unwish, I.os, I.bare, I.base, I.loc, I.cell, I.free, I.freeC, I.pin, I.hok, I.len⟩
theorem SP.unwish {D : Ends} {f : Flow} {s' : Shared} (h : SP (X.wish E) pins D f s') : SP X pins D f s' := by
  cases f with
  | next => obtain ⟨σ', H', I, q⟩ := h; exact ⟨σ', H', I.unwish, q⟩
  | brk => obtain ⟨σ', H', I, q⟩ := h; exact ⟨σ', H', I.unwish, q⟩
  | cont => obtain ⟨σ', H', I, q⟩ := h; exact ⟨σ', H', I.unwish, q⟩
  | ret u => obtain ⟨v, σ', H', I, r, q⟩ := h; exact ⟨v, σ', H', I.unwish, r, q⟩
theorem PSs.nox {st : List Stmt} {t : TS} (h : PSs X.nox st t) : PSs X st t := fun pins s σ H D I hw =>
  wpAny_mono (h pins s σ H D (I.wish _) hw) (fun _ _ q => q.unwish) fun _ _ z => False.elim z
end

/-! ### blocks and small statements -/
section
variable {X : Cx} {st : Stmt} {rest : List Stmt} {t u : TS} {e : Expr} {te : TE} {pos : Pos}
def tNext : TS := fun D σ H => D.nx σ H
def tSeq (t u : TS) : TS := fun D σ H => t { D with nx := u D } σ H
theorem pss_nil : PSs X [] tNext := fun _ _ σ H _ I h => wpAny_execs_nil ⟨σ, H, I, h⟩
theorem pss_cons (h1 : PS X st t) (h2 : PSs X rest u) : PSs X (st :: rest) (tSeq t u) := by
  intro pins s σ H D I h
  refine wpAny_execs_cons (thn (h1 pins s σ H { D with nx := u D } I h) fun f s1 q => ?_)
  cases f with
  | next =>
    obtain ⟨σ', H', I', q⟩ := q
    exact h2 pins s1 σ' H' D I' q
  | ret v => exact q
  | brk => exact q
  | cont => exact q
theorem pss_one (h1 : PS X st t) : PSs X [st] t := by
  intro pins s σ H D I h
  refine wpAny_execs_cons (thn (h1 pins s σ H D I h) fun f s1 q => ?_)
  cases f with
  | next => exact wpAny_execs_nil q
  | ret v => exact q
  | brk => exact q
  | cont => exact q
def tBreak : TS := fun D σ H => D.bk σ H
def tCont : TS := fun D σ H => D.ct σ H
/-- in a def's body nothing is shown -/
theorem Inv.quiet {pins : List (Addr × Obj)} {σ : St} {H : Hp} {s : Shared} (I : Inv X pins σ H s) : interactive X.env = false := by simp [interactive, I.ok.kind]
/-- an expression whose value is dropped -/
def tDrop (te : TE) : TS := fun D σ H => te σ H fun _ H1 => D.nx σ H1
theorem ps_expr (he : PE X e te) (hs : swapsWith e none pos.line X.env = pure false := by rfl) : PS X (.Expr e pos) (tDrop te) := by
  intro pins s σ H D I h
  exact wpAny_Expr_any (thn (he pins s σ H _ I h) fun v s1 ⟨x, H1, I1, r1, q1⟩ => ⟨σ, H1, I1, q1⟩) I.quiet hs
def tRet (te : TE) : TS := fun D σ H => te σ H D.rt
theorem ps_ret (he : PE X e te) : PS X (.Return (some e) pos) (tRet te) := by
  intro pins s σ H D I h
  exact wpAny_Return_some (thn (he pins s σ H _ I h) fun v s1 ⟨x, H1, I1, r1, q1⟩ => ⟨x, σ, H1, I1, r1, q1⟩)
def tRetN : TS := fun D _ H => D.rt .non H
def tIfS (c : TT) (t u : TS) : TS := fun D σ H => c σ H fun b H1 => if b = true then t D σ H1 else u D σ H1
theorem ps_if {c : Expr} {a b : List Stmt} {tc : TT} (hc : PT X c tc) (ha : PSs X a t) (hb : PSs X b u) : PS X (.If c a b pos) (tIfS tc t u) := by
  intro pins s σ H D I h
  refine wpAny_If (thn (hc pins s σ H _ I h) fun d s1 ⟨H1, I1, q1⟩ => ?_)
  cases d with
  | true => exact ha pins s1 σ H1 D I1 q1
  | false => exact hb pins s1 σ H1 D I1 q1
/-- code that the proof never comes to -/
def tNever : TS := fun _ _ _ => False
end

/-! ### targets -/
abbrev TG := V → St → Hp → (St → Hp → Prop) → Prop
abbrev TGs := List V → St → Hp → (St → Hp → Prop) → Prop
def PG (X : Cx) (target : Expr) (t : TG) : Prop :=
  ∀ (pins : List (Addr × Obj)) (s : Shared) (σ : St) (H : Hp) (v : V) (u : Value) (Q : St → Hp → Prop), Inv X pins σ H s → RelV v u → t v σ H Q →
    wpAny (model X.prog X.w) X.A (assign target X.env u) (fun _ s' => ∃ σ' H', Inv X pins σ' H' s' ∧ Q σ' H') X.xe s
/-- several targets, one after another -/
def PGs (X : Cx) (ts : List Expr) (t : TGs) : Prop :=
  ∀ (pins : List (Addr × Obj)) (s : Shared) (σ : St) (H : Hp) (vs : List V) (us : List Value) (Q : St → Hp → Prop), Inv X pins σ H s → Vals vs us → t vs σ H Q →
    wpAny (model X.prog X.w) X.A (assignInOrder ((assignEach ts X.env).map (·.2)) us) (fun _ s' => ∃ σ' H', Inv X pins σ' H' s' ∧ Q σ' H') X.xe s
/-- o[i] = v, by values -/
abbrev TSet := V → V → V → Hp → (Hp → Prop) → Prop
def PSet (X : Cx) (t : TSet) : Prop :=
  ∀ (pins : List (Addr × Obj)) (s : Shared) (σ : St) (H : Hp) (o i v : V) (ov iv u : Value) (Q : Hp → Prop), Inv X pins σ H s → RelV o ov → RelV i iv → RelV v u → t o i v H Q →
    wpAny (model X.prog X.w) X.A (setItem ov iv u) (fun _ s' => ∃ H', Inv X pins σ H' s' ∧ Q H') X.xe s
/-- a op= b, by values -/
abbrev TIp := V → V → Hp → VK → Prop
def PIp (X : Cx) (op : Operator) (t : TIp) : Prop :=
  ∀ (pins : List (Addr × Obj)) (s : Shared) (σ : St) (H : Hp) (x y : V) (v u : Value) (Q : VK), Inv X pins σ H s → RelV x v → RelV y u → t x y H Q →
    wpAny (model X.prog X.w) X.A (inplaceOp op v u) (EP X pins σ Q) X.xe s
section
variable {X : Cx} {pos : Pos}
def gName (i : Nat) : TG := fun v σ H Q => Q (σ.set i (some v)) H
theorem pg_name {i : Nat} {x : Str} (hN : X.N.Nodup) (hi : X.N[i]? = some x) (hx : Loc X.env.scope x) (hf : X.fn x = true ∨ X.env.scope.names.lookup x = some .local := by first | exact .inl rfl | exact .inr rfl | assumption) : PG X (.Name x pos) (gName i) := by
  intro pins s σ H v u Q I r h
  exact wpAny_assign_Name (store_ok I hN hi hx r (fun s' I' => ⟨_, H, I', h⟩) hf)
def gNil : TGs := fun vs σ H Q => vs = [] ∧ Q σ H
def gCons (t : TG) (u : TGs) : TGs := fun vs σ H Q => ∃ v r, vs = v :: r ∧ t v σ H fun σ' H' => u r σ' H' Q
theorem pgs_nil : PGs X [] gNil := by
  intro pins s σ H vs us Q I r h
  obtain ⟨e, h⟩ := h
  subst e
  cases r
  exact assignInOrder_nil ⟨σ, H, I, h⟩
theorem pgs_cons {e : Expr} {es : List Expr} {t : TG} {u : TGs} (h1 : PG X e t) (h2 : PGs X es u)
    (hs : (assignEach (e :: es) X.env).map (·.2) = assign e X.env :: (assignEach es X.env).map (·.2) := by rfl) : PGs X (e :: es) (gCons t u) := by
  intro pins s σ H vs us Q I r h
  obtain ⟨v, vr, e1, h⟩ := h
  subst e1
  cases r with
  | cons r rr =>
    rw [hs]
    refine assignInOrder_cons (thn (h1 pins s σ H _ _ _ I r h) fun _ s1 ⟨σ1, H1, I1, q1⟩ => ?_)
    exact h2 pins s1 σ1 H1 _ _ Q I1 rr q1
/-- (a, b, ..) = a tuple of that length -/
def gTup (K : PySem.W.Frag) (n : Nat) (t : TGs) : TG := fun v σ H Q => ∃ a xs, v = .ref a ∧ SqT K H a xs ∧ xs.length = n ∧ t xs σ H Q
theorem pg_tup {es : List Expr} {k : Nat} {t : TGs} {n : Nat} (hc : X.calm = true) (h : PGs X es t)
    (hn : (assignEach es X.env).length = n := by rfl) (hst : (assignEach es X.env).findIdx? (·.1) = none := by rfl) : PG X (.Tuple es k pos) (gTup X.K n t) := by
  intro pins s σ H v u Q I r hw
  obtain ⟨a, xs, e1, hq, hl, hw⟩ := hw
  subst e1
  cases r
  obtain ⟨its, rv, ht, hz⟩ := I.tuple hq
  refine assign_Tuple_tuple (I.ok.hd hc) ht (by simp [hn, ← hl, rv.length]) hst fun h' hx => ?_
  have I1 : Inv X pins σ H { s with heap := h' } := I.kept (t' := s.toks) fun b o e => hx b o (Nat.ne_of_lt (Heap.lt_size e)) e
  exact h pins _ σ H xs _ Q I1 (by simpa using rv) hw
/-- o[i] = .. -/
def gSub (to ti : TE) (t : TSet) : TG := fun v σ H Q => to σ H fun o H1 => ti σ H1 fun i H2 => t o i v H2 fun H3 => Q σ H3
/-- target = value -/
def tAsg (te : TE) (g : TG) : TS := fun D σ H => te σ H fun x H1 => g x σ H1 D.nx
/-- name = value -/
theorem ps_set {i : Nat} {x : Str} {e : Expr} {te : TE} {pos' : Pos} (hN : X.N.Nodup) (hi : X.N[i]? = some x) (hx : Loc X.env.scope x) (he : PE X e te) (hs : swapsWith e (some (.Name x pos')) pos.line X.env = pure false := by rfl) (hf : X.fn x = true ∨ X.env.scope.names.lookup x = some .local := by first | exact .inl rfl | exact .inr rfl | assumption) :
    PS X (.Assign [.Name x pos'] e pos) (tAsg te (gName i)) := by
  intro pins s σ H D I h
  refine wpAny_Assign_Name (thn (he pins s σ H _ I h) fun v s1 ⟨y, H1, I1, r1, q1⟩ => ?_) hs
  exact store_ok I1 hN hi hx r1 (fun s2 I2 => ⟨_, H1, I2, q1⟩) hf
/-- a, b = x, y with plain local names: stored from the right; the pair itself is not tracked (the opening rows as in PyProof/Rows/TupAssign.lean:23) -/
def tPar (i j : Nat) (ta : TA) : TS := fun D σ H => ta σ H fun vs H1 => ∃ v w, vs = [v, w] ∧ D.nx ((σ.set i (some v)).set j (some w)) H1
/-- name op= e -/
def tAug (i : Nat) (te : TE) (ti : TIp) : TS := fun D σ H => ∃ x, σ[i]? = some (some x) ∧ te σ H fun y H1 => ti x y H1 fun z H2 => D.nx (σ.set i (some z)) H2
/-- o[i] op= e -/
def tAugS (to ti te : TE) (tget : V → V → Hp → VK → Prop) (tip : TIp) (tset : TSet) : TS := fun D σ H => to σ H fun o H1 => ti σ H1 fun i H2 => tget o i H2 fun x H3 => te σ H3 fun y H4 => tip x y H4 fun z H5 => tset o i z H5 fun H6 => D.nx σ H6
/-- o[i], by values -/
def PGet (X : Cx) (t : V → V → Hp → VK → Prop) : Prop :=
  ∀ (pins : List (Addr × Obj)) (s : Shared) (σ : St) (H : Hp) (o i : V) (ov iv : Value) (Q : VK), Inv X pins σ H s → RelV o ov → RelV i iv → t o i H Q →
    wpAny (model X.prog X.w) X.A (getItem ov iv) (EP X pins σ Q) X.xe s
/-- ints -/
def ipI (f : Int → Int → Int) : TIp := fun x y H Q => ∃ i j, x = .int i ∧ y = .int j ∧ Q (.int (f i j)) H
end

/-! ### while -/
section
variable {X : Cx} {pos : Pos}
/-- the invariant W with its measure -/
def tWhile (c : TT) (tb : TS) : TS := fun D σ H => ∃ W : Nat → St → Hp → Prop, (∃ m, W m σ H) ∧ ∀ m σ H, W m σ H →
  c σ H fun b H1 => if b = true then ∃ N : St → Hp → Prop, (∀ σ' H', N σ' H' → ∃ m', m' < m ∧ W m' σ' H') ∧ tb { D with nx := N, ct := N, bk := D.nx } σ H1 else D.nx σ H1
theorem ps_while {c : Expr} {body : List Stmt} {tc : TT} {tb : TS} (hp : PassesOwn (model X.prog X.w) X.A X.env X.xe) (hc : PT X c tc) (hb : PSs X body tb) : PS X (.While c body [] pos) (tWhile tc tb) := by
  intro pins s σ H D I h
  obtain ⟨W, ⟨m0, w0⟩, turn⟩ := h
  refine wpAny_While (codeAny_whileLoop (fun n s' => ∃ σ' H', Inv X pins σ' H' s' ∧ W n σ' H') ?_ m0 ⟨σ, H, I, w0⟩)
  rintro n s1 ⟨σ1, H1, I1, w1⟩
  refine wpAny_passesOwn hp (thn (hc pins s1 σ1 H1 _ I1 (turn n σ1 H1 w1)) fun b s2 ⟨H2, I2, q2⟩ => ?_)
  cases b with
  | true =>
    obtain ⟨N, hN, q2⟩ := q2
    rw [if_pos rfl]
    refine wpAny_passesOwn hp (thn (hb pins s2 σ1 H2 _ I2 q2) fun f s3 q3 => ?_)
    cases f with
    | next =>
      obtain ⟨σ3, H3, I3, n3⟩ := q3
      obtain ⟨m', hm, w3⟩ := hN σ3 H3 n3
      exact ⟨m', hm, σ3, H3, I3, w3⟩
    | cont =>
      obtain ⟨σ3, H3, I3, n3⟩ := q3
      obtain ⟨m', hm, w3⟩ := hN σ3 H3 n3
      exact ⟨m', hm, σ3, H3, I3, w3⟩
    | brk => exact q3
    | ret v => exact q3
  | false =>
    rw [if_neg Bool.false_ne_true]
    exact wpAny_execs_nil ⟨σ1, H2, I2, q2⟩
end

/-! ### what a loop or a comprehension walks -/
/-- at turn i: it yields x (the heap may grow), or it stops -/
structure It where
  go : Nat → Hp → Prop
  yld : Nat → Hp → V → Hp → Prop
  stop : Nat → Hp → Prop
/-- the iterator's own objects may turn: they are not the frame's, not pinned, younger than the entry (or a comprehension's own) -/
def FpOk (X : Cx) (pins : List (Addr × Obj)) (H : Hp) (b : Addr) : Prop :=
  H b = none ∧ b ≠ X.env.locals ∧ b ∉ X.fs ∧ (b ∈ X.ex ∨ X.s_0.heap.objs.size ≤ b) ∧ (∀ x c, X.env.cells.lookup x = some c → c ≠ b) ∧ ∀ p ∈ X.pn ++ pins, p.1 ≠ b
theorem Inv.fpOk {X : Cx} {pins : List (Addr × Obj)} {σ : St} {H H' : Hp} {s : Shared} {b : Addr} (I : Inv X pins σ H s) (hb : s.heap.objs.size ≤ b) (hn : H' b = none) : FpOk X pins H' b := by
  refine ⟨hn, Nat.ne_of_gt (Nat.lt_of_lt_of_le I.lt hb), I.nofs hb, .inr (Nat.le_trans I.sz hb), fun x c e z => ?_, fun p hp z => ?_⟩
  · obtain ⟨v, q⟩ := I.cell x c e
    exact absurd (Nat.lt_of_lt_of_le q.lt (by rw [z]; exact hb)) (Nat.lt_irrefl _)
  · exact absurd (Nat.lt_of_lt_of_le (Heap.lt_size (I.pin p hp).1) (by rw [z]; exact hb)) (Nat.lt_irrefl _)
structure Turn (P : Program) (w : World) (K : PySem.W.Frag) (tg : Expr) (J : It) (fp : List Addr) (it : Addr) (tn : Nat → Heap → Prop) : Prop where
  mem : it ∈ fp
  obj : ∀ i h, tn i h → ∀ b ∈ fp, ∃ o, h.get? b = some o ∧ ∀ v, o.data ≠ .cell v
  keep : ∀ i h h', tn i h → (∀ b ∈ fp, ∀ o, h.get? b = some o → h'.get? b = some o) → tn i h'
  item : ∀ (X : Cx), X.prog = P → X.w = w → X.K = K → X.calm = true → ∀ (i : Nat) (pins : List (Addr × Obj)) (s : Shared) (σ : St) (H : Hp) (E : Value → Shared → Prop), Inv X pins σ H s → (∀ b ∈ fp, FpOk X pins H b) → tn i s.heap → J.go i H →
    wpAny (model P w) X.A (pyNext (.ref it)) (fun r s1 => ∃ u, r = some u ∧
      wpAny (model P w) X.A (letOwnedTupleGo tg (.ref it) u) (fun _ s2 => ∃ x H', Inv X pins σ H' s2 ∧ RelV x u ∧ J.yld i H x H' ∧ tn (i + 1) s2.heap ∧ ∀ b ∈ fp, H' b = none) E s1) E s
  done : ∀ (X : Cx), X.prog = P → X.w = w → X.K = K → X.calm = true → ∀ (i : Nat) (pins : List (Addr × Obj)) (s : Shared) (σ : St) (H : Hp) (E : Value → Shared → Prop), Inv X pins σ H s → (∀ b ∈ fp, FpOk X pins H b) → tn i s.heap → J.stop i H →
    wpAny (model P w) X.A (pyNext (.ref it)) (fun r s1 => r = none ∧ Inv X pins σ H s1) E s
  self : ∀ (A : Around) (i : Nat) (s : Shared) (Q : Value → Shared → Prop) (E : Value → Shared → Prop), tn i s.heap → Q (.ref it) s → wpAny (model P w) A (pyIter (.ref it)) Q E s
abbrev TI := St → Hp → (It → Hp → Prop) → Prop
/-- an iterator has come -/
def PIE (X : Cx) (pins : List (Addr × Obj)) (σ : St) (tg : Expr) (R : It → Hp → Prop) (itv : Value) (s2 : Shared) : Prop :=
  ∃ (it : Addr) (fp : List Addr) (tn : Nat → Heap → Prop) (J : It) (H' : Hp), itv = .ref it ∧ Inv X pins σ H' s2 ∧ Turn X.prog X.w X.K tg J fp it tn ∧ tn 0 s2.heap ∧ (∀ b ∈ fp, FpOk X pins H' b) ∧ R J H'
def PI (X : Cx) (tg iter : Expr) (wi : TI) : Prop :=
  ∀ (pins : List (Addr × Obj)) (s : Shared) (σ : St) (H : Hp) (R : It → Hp → Prop), Inv X pins σ H s → wi σ H R →
    wpAny (model X.prog X.w) X.A (eval iter X.env) (fun v s1 => wpAny (model X.prog X.w) X.A (pyIter v) (PIE X pins σ tg R) X.xe s1) X.xe s

/-- the step ahead of the store is nothing for an iterator that keeps no tuple -/
theorem go_of {M : Model} {A : Around} {E : Value → Shared → Prop} {s : Shared} {tg : Expr} {it : Addr} {u : Value} {o : Obj} {n : String} {vs : Array Value} {Q : Unit → Shared → Prop} (ho : s.heap.get? it = some o) (hc : o.cls = .type n) (hd : o.data = .fields vs)
    (hn : ["enumerate", "zip", "dict_itemiterator", "dict_reverseitemiterator", "odict_iterator", "itertools.zip_longest", "itertools.pairwise"].contains n = false) (hQ : Q () s) : wpAny M A (letOwnedTupleGo tg (.ref it) u) Q E s := by
  unfold letOwnedTupleGo
  cases tg <;> first
    | exact wpAny_pure hQ
    | (cases u <;> first
        | exact wpAny_pure hQ
        | (refine wpAny_bind (wpAny_load ho ?_)
           rw [hc, hd]
           show wpAny M A (if (["enumerate", "zip", "dict_itemiterator", "dict_reverseitemiterator", "odict_iterator", "itertools.zip_longest", "itertools.pairwise"].contains n && vs[0]? == some (rawInt _)) = true then _ else _) Q E s
           rw [if_neg (by intro h; rw [hn, Bool.false_and] at h; cases h)]
           exact wpAny_pure hQ))

/-- the list at a, as it stands at each turn (a loop may append to it) -/
def Itl (K : PySem.W.Frag) (a : Addr) : It :=
  ⟨fun i H => ∃ xs x, SqL K H a xs ∧ xs[i]? = some x, fun i H x H' => H' = H ∧ ∀ xs, SqL K H a xs → xs[i]? = some x, fun i H => ∃ xs, SqL K H a xs ∧ xs.length ≤ i⟩
def Itt (K : PySem.W.Frag) (a : Addr) : It :=
  ⟨fun i H => ∃ xs x, SqT K H a xs ∧ xs[i]? = some x, fun i H x H' => H' = H ∧ ∀ xs, SqT K H a xs → xs[i]? = some x, fun i H => ∃ xs, SqT K H a xs ∧ xs.length ≤ i⟩
/-- lo, lo + 1, .. (n of them) -/
def Itr (lo : Int) (n : Nat) : It := ⟨fun i _ => i < n, fun i H x H' => H' = H ∧ x = .int (lo + i), fun i _ => n ≤ i⟩
theorem turn_list {P : Program} {w : World} {K : PySem.W.Frag} {tg : Expr} (a it : Addr) : Turn P w K tg (Itl K a) [it] it (fun i h => h.IsListIter it a i) where
  mem := by simp
  obj := fun i h st b hb => by
    have e : b = it := by simpa using hb
    subst e
    obtain ⟨o, e, c, d⟩ := st
    exact ⟨o, e, fun v z => by rw [d] at z; cases z⟩
  keep := fun i h h' st k => st.at fun o e => k it (by simp) o e
  item := by
    intro X hP hw hK hc i pins s σ H E I hf st hg
    subst hP hw hK
    obtain ⟨xs, x, hq, hx⟩ := hg
    obtain ⟨its, rv, p, hz⟩ := I.list hq
    obtain ⟨u, hu, ru⟩ := rv.get hx
    obtain ⟨f0, f1, f2, f3, f4, f5⟩ := hf it (by simp)
    refine wpAny_pyNext_list_item st p.isList (x := u) (by simpa using hu) fun h' st' sb => ?_
    have I1 : Inv X pins σ H { s with heap := h' } := I.turned (t' := s.toks) (fun b o hb e => (sb.2 b hb).trans e) f0 f1 f3 f4 f5
    obtain ⟨o, e, c, d⟩ := id st'
    exact ⟨u, rfl, go_of (s := { s with heap := h' }) e c d (by decide) ⟨x, H, I1, ru, ⟨rfl, fun ys hy => by rw [I.list_inj hy hq]; exact hx⟩, st', fun b hb => (hf b hb).1⟩⟩
  done := by
    intro X hP hw hK hc i pins s σ H E I hf st hg
    subst hP hw hK
    obtain ⟨xs, hq, hx⟩ := hg
    obtain ⟨its, rv, p, hz⟩ := I.list hq
    obtain ⟨f0, f1, f2, f3, f4, f5⟩ := hf it (by simp)
    have hl := rv.length
    exact wpAny_pyNext_list_end (I.ok.hd hc) st p.isList (by simp; omega) fun h' eb => ⟨rfl, I.turned (t' := s.toks) (fun b o hb e => eb b o hb e) f0 f1 f3 f4 f5⟩
  self := fun _ _ _ _ _ st h => wpAny_pyIter_listiter st h
theorem turn_tuple {P : Program} {w : World} {K : PySem.W.Frag} {tg : Expr} (a it : Addr) : Turn P w K tg (Itt K a) [it] it (fun i h => h.IsTupleIter it a i) where
  mem := by simp
  obj := fun i h st b hb => by
    have e : b = it := by simpa using hb
    subst e
    obtain ⟨o, e, c, d⟩ := st
    exact ⟨o, e, fun v z => by rw [d] at z; cases z⟩
  keep := fun i h h' st k => st.at fun o e => k it (by simp) o e
  item := by
    intro X hP hw hK hc i pins s σ H E I hf st hg
    subst hP hw hK
    obtain ⟨xs, x, hq, hx⟩ := hg
    obtain ⟨its, rv, p, hz⟩ := I.tuple hq
    obtain ⟨u, hu, ru⟩ := rv.get hx
    obtain ⟨f0, f1, f2, f3, f4, f5⟩ := hf it (by simp)
    refine wpAny_pyNext_tuple_item st (show s.heap.IsTuple a its.toArray from p) (x := u) (by simpa using hu) fun h' st' sb => ?_
    have I1 : Inv X pins σ H { s with heap := h' } := I.turned (t' := s.toks) (fun b o hb e => (sb.2 b hb).trans e) f0 f1 f3 f4 f5
    obtain ⟨o, e, c, d⟩ := id st'
    exact ⟨u, rfl, go_of (s := { s with heap := h' }) e c d (by decide) ⟨x, H, I1, ru, ⟨rfl, fun ys hy => by rw [I.tuple_inj hy hq]; exact hx⟩, st', fun b hb => (hf b hb).1⟩⟩
  done := by
    intro X hP hw hK hc i pins s σ H E I hf st hg
    subst hP hw hK
    obtain ⟨xs, hq, hx⟩ := hg
    obtain ⟨its, rv, p, hz⟩ := I.tuple hq
    obtain ⟨f0, f1, f2, f3, f4, f5⟩ := hf it (by simp)
    have hl := rv.length
    exact wpAny_pyNext_tuple_end (I.ok.hd hc) st (show s.heap.IsTuple a its.toArray from p) (by simp; omega) fun h' eb => ⟨rfl, I.turned (t' := s.toks) (fun b o hb e => eb b o hb e) f0 f1 f3 f4 f5⟩
  self := fun _ _ _ _ _ st h => wpAny_pyIter_tupleiter st h
theorem turn_range {P : Program} {w : World} {K : PySem.W.Frag} {tg : Expr} (it : Addr) (lo : Int) (n : Nat) : Turn P w K tg (Itr lo n) [it] it (fun i h => IsRangeIter h it (lo + (i : Nat) * 1) ((n : Int) - (i : Nat)) 1) where
  mem := by simp
  obj := fun i h st b hb => by
    have e : b = it := by simpa using hb
    subst e
    exact ⟨_, st, fun v z => by
      have z' : Data.fields _ = Data.cell v := z
      cases z'⟩
  keep := fun i h h' st k => k it (by simp) _ st
  item := by
    intro X hP hw hK hc i pins s σ H E I hf st hg
    subst hP hw hK
    obtain ⟨f0, f1, f2, f3, f4, f5⟩ := hf it (by simp)
    have W := Walks.range (prog := X.prog) (w := X.w) (I.ok.hd hc) it lo 1 n
    refine W.item i s _ _ hg st fun v h' tk hv st' kk => ?_
    obtain ⟨t, rfl⟩ := hv
    have I1 : Inv X pins σ H { s with heap := h', toks := tk } := I.turned (fun b o hb e => kk b o (by simpa using hb) e) f0 f1 f3 f4 f5
    refine ⟨_, rfl, go_of (s := { s with heap := h', toks := tk }) (n := "range_iterator") st' rfl rfl (by decide) ⟨.int (lo + i), H, I1, ⟨t, ?_⟩, ⟨rfl, rfl⟩, st', fun b hb => (hf b hb).1⟩⟩
    rw [Int.mul_one]
  done := by
    intro X hP hw hK hc i pins s σ H E I hf st hg
    subst hP hw hK
    obtain ⟨f0, f1, f2, f3, f4, f5⟩ := hf it (by simp)
    exact wpAny_pyNext_range_end (I.ok.hd hc) st (by have : n ≤ i := hg; omega) fun h' eb => ⟨rfl, I.turned (t' := s.toks) (fun b o hb e => eb b o hb e) f0 f1 f3 f4 f5⟩
  self := fun _ _ _ _ _ st h => wpAny_pyIter_rangeiter st h
end L2

namespace L2
open PySem PySem.Spec PyProof.Rows
section
variable {X : Cx} {tg : Expr}
def iList (K : PySem.W.Frag) (tl : TE) : TI := fun σ H R => tl σ H fun x H1 => ∃ a, x = .ref a ∧ (∃ xs, SqL K H1 a xs) ∧ R (Itl K a) H1
def iTup (K : PySem.W.Frag) (tl : TE) : TI := fun σ H R => tl σ H fun x H1 => ∃ a, x = .ref a ∧ (∃ xs, SqT K H1 a xs) ∧ R (Itt K a) H1
theorem pi_list {l : Expr} {tl : TE} (hl : PE X l tl) : PI X tg l (iList X.K tl) := by
  intro pins s σ H R I h
  refine thn (hl pins s σ H _ I h) fun v s1 ⟨x, H1, I1, r1, q1⟩ => ?_
  obtain ⟨a, e, ⟨xs, hq⟩, q⟩ := q1
  subst e
  cases r1
  obtain ⟨its, rv, p, hz⟩ := I1.list hq
  refine wpAny_pyIter_list p.isList ?_
  refine ⟨s1.heap.objs.size, [s1.heap.objs.size], _, _, H1, rfl, I1.kept (t' := s1.toks) fun b o e => Heap.get?_push_of_some _ e, turn_list a _, ⟨_, Heap.get?_push_size _ rfl, rfl, rfl⟩, fun b hb => ?_, q⟩
  have e : b = s1.heap.objs.size := by simpa using hb
  subst e
  exact I1.fpOk (Nat.le_refl _) (I1.hok.fresh (Nat.le_refl _))
theorem pi_tup {l : Expr} {tl : TE} (hl : PE X l tl) : PI X tg l (iTup X.K tl) := by
  intro pins s σ H R I h
  refine thn (hl pins s σ H _ I h) fun v s1 ⟨x, H1, I1, r1, q1⟩ => ?_
  obtain ⟨a, e, ⟨xs, hq⟩, q⟩ := q1
  subst e
  cases r1
  obtain ⟨its, rv, p, hz⟩ := I1.tuple hq
  refine wpAny_pyIter_tuple (show s1.heap.IsTuple a its.toArray from p) ?_
  refine ⟨s1.heap.objs.size, [s1.heap.objs.size], _, _, H1, rfl, I1.kept (t' := s1.toks) fun b o e => Heap.get?_push_of_some _ e, turn_tuple a _, ⟨_, Heap.get?_push_size _ rfl, rfl, rfl⟩, fun b hb => ?_, q⟩
  have e : b = s1.heap.objs.size := by simpa using hb
  subst e
  exact I1.fpOk (Nat.le_refl _) (I1.hok.fresh (Nat.le_refl _))
/-- a range object just made, walked -/
theorem range_it {pins : List (Addr × Obj)} {σ : St} {H : Hp} {s : Shared} {R : It → Hp → Prop} {E : Value → Shared → Prop} {lo hi : Int} {t u v : Tok} {tk : Nat} (I : Inv X pins σ H s) (h1 : -(2 ^ 62) ≤ lo) (h2 : lo < 2 ^ 62) (h3 : -(2 ^ 62) ≤ hi) (h4 : hi < 2 ^ 62)
    (q : R (Itr lo (hi - lo).toNat) H) : wpAny (model X.prog X.w) X.A (pyIter (.ref s.heap.objs.size)) (PIE X pins σ tg R) E { s with heap := s.heap.push { cls := .type "range", data := .fields #[.int lo t, .int hi u, .int 1 v] }, toks := tk } := by
  refine wpAny_pyIter_range (IsRange.new ..) (small_one h1 h2 h3 h4) ?_
  have I1 : Inv X pins σ H { s with heap := s.heap.push { cls := .type "range", data := .fields #[.int lo t, .int hi u, .int 1 v] }, toks := tk } := I.kept fun b o e => Heap.get?_push_of_some _ e
  refine ⟨(s.heap.push { cls := .type "range", data := .fields #[.int lo t, .int hi u, .int 1 v] }).objs.size, [(s.heap.push { cls := .type "range", data := .fields #[.int lo t, .int hi u, .int 1 v] }).objs.size], _, _, H, rfl,
    I1.kept (t' := tk) fun b o e => Heap.get?_push_of_some _ e, turn_range _ lo (hi - lo).toNat, ?_, fun b hb => ?_, q⟩
  · have e1 : lo + ((0 : Nat) : Int) * 1 = lo := by simp
    have e2 : (((hi - lo).toNat : Nat) : Int) - ((0 : Nat) : Int) = Builtin.Range.rangeSize lo hi 1 := by rw [rangeSize_one]; split <;> omega
    show IsRangeIter _ _ (lo + ((0 : Nat) : Int) * 1) ((((hi - lo).toNat : Nat) : Int) - ((0 : Nat) : Int)) 1
    rw [e1, e2]
    exact Heap.get?_push_size _ rfl
  · have e : b = (s.heap.push { cls := .type "range", data := .fields #[.int lo t, .int hi u, .int 1 v] }).objs.size := by simpa using hb
    subst e
    exact I1.fpOk (Nat.le_refl _) (I1.hok.fresh (Nat.le_refl _))
def iRng1 (ta : TA) : TI := fun σ H R => ta σ H fun vs H1 => ∃ j : Int, vs = [.int j] ∧ -(2 ^ 62) ≤ j ∧ j < 2 ^ 62 ∧ R (Itr 0 j.toNat) H1
def iRng2 (ta : TA) : TI := fun σ H R => ta σ H fun vs H1 => ∃ i j : Int, vs = [.int i, .int j] ∧ (-(2 ^ 62) ≤ i ∧ i < 2 ^ 62 ∧ -(2 ^ 62) ≤ j ∧ j < 2 ^ 62) ∧ R (Itr i (j - i).toNat) H1
theorem pi_range1 {a : Expr} {ta : TA} {p pos : Pos} (hg : Gl X "range") (hm : X.mg "range" = none) (ha : PA X [a] ta) (hs : starEach [a] X.env = [(false, eval a X.env)] := by rfl) : PI X tg (.Call (.Name "range" p) [a] [] pos) (iRng1 ta) := by
  intro pins s σ H R I h
  refine Call_ (ld_blt I hg hm boot_range (PyProof.Rows.callWith_type1 (thn (ha pos pins s σ H _ I h) fun us s1 ⟨vs, H1, I1, r1, q1⟩ => ?_) hs rfl))
  obtain ⟨j, e, q1, q2, q⟩ := q1
  subst e
  cases r1 with
  | cons r rr =>
    cases rr
    obtain ⟨t, rfl⟩ := r
    exact call_range_1 (range_it I1 (by omega) (by omega) q1 q2 (by simpa using q))

/-! ### for -/
/-- W: the invariant by the turn and a measure; N: what the body is to reach -/
def tFor (wi : TI) (g : TG) (tb : TS) : TS := fun D σ H => wi σ H fun J H1 => ∃ W : Nat → Nat → St → Hp → Prop, (∃ m, W 0 m σ H1) ∧ ∀ i m σ H, W i m σ H →
  (J.stop i H ∧ D.nx σ H) ∨ (J.go i H ∧ ∃ N : St → Hp → Prop, (∀ σ' H', N σ' H' → ∃ m', m' < m ∧ W (i + 1) m' σ' H') ∧ ∀ x H', J.yld i H x H' → g x σ H' fun σ2 H2 => tb { D with nx := N, ct := N, bk := D.nx } σ2 H2)
/-- the records at fp as they stand -/
def pinsAt (fp : List Addr) (h : Heap) : List (Addr × Obj) := fp.filterMap fun b => (h.get? b).map fun o => (b, o)
theorem mem_pinsAt {fp : List Addr} {h : Heap} {b : Addr} {o : Obj} (hb : b ∈ fp) (e : h.get? b = some o) : (b, o) ∈ pinsAt fp h := List.mem_filterMap.mpr ⟨b, hb, by rw [e]; rfl⟩
theorem of_pinsAt {fp : List Addr} {h : Heap} {p : Addr × Obj} (hp : p ∈ pinsAt fp h) : p.1 ∈ fp ∧ h.get? p.1 = some p.2 := by
  obtain ⟨b, hb, e⟩ := List.mem_filterMap.mp hp
  cases q : h.get? b with
  | none => rw [q] at e; cases e
  | some o =>
    rw [q] at e
    have e' : (b, o) = p := Option.some.inj e
    subst e'
    exact ⟨hb, q⟩
theorem Inv.pinned {pins : List (Addr × Obj)} {σ : St} {H : Hp} {s : Shared} {fp : List Addr} (I : Inv X pins σ H s) (hf : ∀ b ∈ fp, FpOk X pins H b) (ho : ∀ b ∈ fp, ∃ o, s.heap.get? b = some o ∧ ∀ v, o.data ≠ .cell v) : Inv X (pins ++ pinsAt fp s.heap) σ H s :=
  I.pins_of fun p hp => (List.mem_append.mp hp).elim (fun z => I.pin p (List.mem_append_right _ z)) fun z => by
    obtain ⟨hb, e⟩ := of_pinsAt z
    obtain ⟨f0, f1, f2, _⟩ := hf p.1 hb
    obtain ⟨o, e', d⟩ := ho p.1 hb
    rw [e] at e'; cases e'
    exact ⟨e, f0, f1, f2, d⟩
theorem Inv.unpinned {pins pl : List (Addr × Obj)} {σ : St} {H : Hp} {s : Shared} (I : Inv X (pins ++ pl) σ H s) : Inv X pins σ H s := I.pins_of fun p hp => I.pin p (List.mem_append_right _ (List.mem_append_left _ hp))
theorem ps_for {iter : Expr} {body : List Stmt} {wi : TI} {g : TG} {tb : TS} {pos : Pos} (hp : PassesOwn (model X.prog X.w) X.A X.env X.xe) (hc : X.calm = true) (hi : PI X tg iter wi) (hg : PG X tg g) (hb : PSs X body tb)
    (hs : ∀ x, foldedSetIterable iter X.env x = pure x := by intro _; rfl) : PS X (.For tg iter body [] pos) (tFor wi g tb) := by
  intro pins s σ H D I h
  refine wpAny_For (thn (hi pins s σ H _ I h) fun v s1 h1 => thn h1 fun itv s2 h2 => ?_) hs
  obtain ⟨it, fp, tn, J, H2, e, I2, T, st2, f2, W, ⟨m0, w0⟩, turn⟩ := h2
  subst e
  -- what stays true of the iterator's objects through the loop
  have stat : ∀ {H' : Hp}, (∀ b ∈ fp, H' b = none) → ∀ b ∈ fp, FpOk X pins H' b := fun hn b hb => ⟨hn b hb, (f2 b hb).2⟩
  refine codeAny_forLoop_any (fun n s' => ∃ i σ' H', Inv X pins σ' H' s' ∧ tn i s'.heap ∧ (∀ b ∈ fp, H' b = none) ∧ W i n σ' H') ?_ m0 ⟨0, σ, H2, I2, st2, fun b hb => (f2 b hb).1, w0⟩
  rintro n s3 ⟨i, σ3, H3, I3, st3, fr3, w3⟩
  rcases turn i n σ3 H3 w3 with ⟨stop, qn⟩ | ⟨go, N, hN, step⟩
  · refine wpAny_passesOwn hp (thn (T.done X rfl rfl rfl hc i pins s3 σ3 H3 X.xe I3 (stat fr3) st3 stop) fun r s4 ⟨hr, I4⟩ => ?_)
    subst hr
    exact wpAny_execs_nil ⟨σ3, H3, I4, qn⟩
  · refine wpAny_passesOwn hp (thn (T.item X rfl rfl rfl hc i pins s3 σ3 H3 X.xe I3 (stat fr3) st3 go) fun r s4 ⟨u, hr, h4⟩ => ?_)
    subst hr
    refine wpAny_passesOwn hp (thn h4 fun _ s5 ⟨x, H5, I5, r5, y5, st5, fr5⟩ => ?_)
    have I5' := I5.pinned (stat fr5) (T.obj _ _ st5)
    refine wpAny_passesOwn hp (thn (hg _ s5 σ3 H5 x u _ I5' r5 (step x H5 y5)) fun _ s6 ⟨σ6, H6, I6, q6⟩ => ?_)
    refine wpAny_passesOwn hp (thn (hb _ s6 σ6 H6 _ I6 q6) fun f s7 q7 => ?_)
    have again : ∀ {σ7 : St} {H7 : Hp}, Inv X (pins ++ pinsAt fp s5.heap) σ7 H7 s7 → N σ7 H7 → ∃ m, m < n ∧ ∃ i σ' H', Inv X pins σ' H' s7 ∧ tn i s7.heap ∧ (∀ b ∈ fp, H' b = none) ∧ W i m σ' H' := fun {σ7 H7} I7 n7 => by
      obtain ⟨m', hm, w7⟩ := hN σ7 H7 n7
      refine ⟨m', hm, i + 1, σ7, H7, I7.unpinned, T.keep _ _ _ st5 fun b hb o e => (I7.pin (b, o) (List.mem_append_right _ (List.mem_append_right _ (mem_pinsAt hb e)))).1, fun b hb => ?_, w7⟩
      obtain ⟨o, e, d⟩ := T.obj _ _ st5 b hb
      exact (I7.pin (b, o) (List.mem_append_right _ (List.mem_append_right _ (mem_pinsAt hb e)))).2.1
    cases f with
    | next => obtain ⟨σ7, H7, I7, n7⟩ := q7; exact again I7 n7
    | cont => obtain ⟨σ7, H7, I7, n7⟩ := q7; exact again I7 n7
    | brk => obtain ⟨σ7, H7, I7, q7⟩ := q7; exact ⟨σ7, H7, I7.unpinned, q7⟩
    | ret v => obtain ⟨x7, σ7, H7, I7, r7, q7⟩ := q7; exact ⟨x7, σ7, H7, I7.unpinned, r7, q7⟩
end

/-! ### the forms one uses -/
/-- over a list that the body leaves as it is -/
theorem for_list {K : PySem.W.Frag} {a : Addr} {xs : List V} {g : TG} {tb : TS} {D : Ends} {σ : St} {H : Hp} (Pv : Nat → St → Hp → Prop) (h0 : Pv 0 σ H) (hl : ∀ i σ H, i ≤ xs.length → Pv i σ H → SqL K H a xs)
    (hs : ∀ i x σ H, xs[i]? = some x → Pv i σ H → g x σ H fun σ2 H2 => tb { D with nx := Pv (i + 1), ct := Pv (i + 1), bk := D.nx } σ2 H2) (hd : ∀ σ H, Pv xs.length σ H → D.nx σ H) :
    ∃ W : Nat → Nat → St → Hp → Prop, (∃ m, W 0 m σ H) ∧ ∀ i m σ H, W i m σ H →
      ((Itl K a).stop i H ∧ D.nx σ H) ∨ ((Itl K a).go i H ∧ ∃ N : St → Hp → Prop, (∀ σ' H', N σ' H' → ∃ m', m' < m ∧ W (i + 1) m' σ' H') ∧ ∀ x H', (Itl K a).yld i H x H' → g x σ H' fun σ2 H2 => tb { D with nx := N, ct := N, bk := D.nx } σ2 H2) := by
  refine ⟨fun i m σ H => m = xs.length - i ∧ i ≤ xs.length ∧ Pv i σ H, ⟨xs.length, by simp, Nat.zero_le _, h0⟩, ?_⟩
  rintro i m σ H ⟨rfl, hi, p⟩
  have q := hl i σ H hi p
  by_cases hlt : i < xs.length
  · refine .inr ⟨⟨xs, xs[i], q, by simp [hlt]⟩, Pv (i + 1), fun σ' H' p' => ⟨xs.length - (i + 1), by omega, rfl, hlt, p'⟩, fun x H' y => ?_⟩
    obtain ⟨e, y⟩ := y
    subst e
    exact hs i x σ _ (y xs q) p
  · have e : i = xs.length := by omega
    subst e
    exact .inl ⟨⟨xs, q, Nat.le_refl _⟩, hd σ H p⟩
theorem for_range {lo : Int} {n : Nat} {g : TG} {tb : TS} {D : Ends} {σ : St} {H : Hp} (Pv : Nat → St → Hp → Prop) (h0 : Pv 0 σ H)
    (hs : ∀ i σ H, i < n → Pv i σ H → g (.int (lo + i)) σ H fun σ2 H2 => tb { D with nx := Pv (i + 1), ct := Pv (i + 1), bk := D.nx } σ2 H2) (hd : ∀ σ H, Pv n σ H → D.nx σ H) :
    ∃ W : Nat → Nat → St → Hp → Prop, (∃ m, W 0 m σ H) ∧ ∀ i m σ H, W i m σ H →
      ((Itr lo n).stop i H ∧ D.nx σ H) ∨ ((Itr lo n).go i H ∧ ∃ N : St → Hp → Prop, (∀ σ' H', N σ' H' → ∃ m', m' < m ∧ W (i + 1) m' σ' H') ∧ ∀ x H', (Itr lo n).yld i H x H' → g x σ H' fun σ2 H2 => tb { D with nx := N, ct := N, bk := D.nx } σ2 H2) := by
  refine ⟨fun i m σ H => m = n - i ∧ i ≤ n ∧ Pv i σ H, ⟨n, by simp, Nat.zero_le _, h0⟩, ?_⟩
  rintro i m σ H ⟨rfl, hi, p⟩
  by_cases hlt : i < n
  · refine .inr ⟨hlt, Pv (i + 1), fun σ' H' p' => ⟨n - (i + 1), by omega, rfl, hlt, p'⟩, fun x H' y => ?_⟩
    obtain ⟨e, y⟩ := y
    subst e y
    exact hs i σ _ hlt p
  · have e : i = n := by omega
    subst e
    exact .inl ⟨Nat.le_refl _, hd σ H p⟩
/-- while, by a word and a measure of the state -/
theorem while_by {c : TT} {tb : TS} {D : Ends} {σ : St} {H : Hp} (Pv : St → Hp → Prop) (μ : St → Hp → Nat) (h0 : Pv σ H)
    (hs : ∀ σ H, Pv σ H → c σ H fun b H1 => if b = true then tb { D with nx := fun σ' H' => Pv σ' H' ∧ μ σ' H' < μ σ H, ct := fun σ' H' => Pv σ' H' ∧ μ σ' H' < μ σ H, bk := D.nx } σ H1 else D.nx σ H1)
    (mono : ∀ σ H Q Q', (∀ b H1, Q b H1 → Q' b H1) → c σ H Q → c σ H Q') : tWhile c tb D σ H := by
  refine ⟨fun m σ H => m = μ σ H ∧ Pv σ H, ⟨_, rfl, h0⟩, ?_⟩
  rintro m σ H ⟨rfl, p⟩
  refine mono σ H _ _ (fun b H1 q => ?_) (hs σ H p)
  cases b with
  | true => exact ⟨_, fun σ' H' ⟨p', l⟩ => ⟨_, l, rfl, p'⟩, q⟩
  | false => exact q
end L2

namespace L2
open PySem PySem.Spec PyProof.Rows

abbrev R2 := V → V → Hp → VK → Prop
/-- a two-place operation on values: f is binaryOp op, inplaceOp op or compareOp op -/
def OpR (X : Cx) (f : Value → Value → Sem Value) (r : R2) : Prop :=
  ∀ (pins : List (Addr × Obj)) (s : Shared) (σ : St) (H : Hp) (x y : V) (v u : Value) (Q : VK), Inv X pins σ H s → RelV x v → RelV y u → r x y H Q →
    wpAny (model X.prog X.w) X.A (f v u) (EP X pins σ Q) X.xe s
/-- a one-place operation -/
def UnR (X : Cx) (f : Value → Sem Value) (r : V → Hp → VK → Prop) : Prop :=
  ∀ (pins : List (Addr × Obj)) (s : Shared) (σ : St) (H : Hp) (x : V) (v : Value) (Q : VK), Inv X pins σ H s → RelV x v → r x H Q →
    wpAny (model X.prog X.w) X.A (f v) (EP X pins σ Q) X.xe s
/-- a call of a value that is known (a builtin, a type) with values -/
def CallR (X : Cx) (f : Value) (r : List V → Hp → VK → Prop) : Prop :=
  ∀ (pins : List (Addr × Obj)) (s : Shared) (σ : St) (H : Hp) (xs : List V) (us : List Value) (Q : VK), Inv X pins σ H s → Vals xs us → r xs H Q →
    wpAny (model X.prog X.w) X.A (call f us) (EP X pins σ Q) X.xe s
/-- a value's truth -/
def TruR (X : Cx) (r : V → Hp → (Bool → Hp → Prop) → Prop) : Prop :=
  ∀ (pins : List (Addr × Obj)) (s : Shared) (σ : St) (H : Hp) (x : V) (v : Value) (Q : Bool → Hp → Prop), Inv X pins σ H s → RelV x v → r x H Q →
    wpAny (model X.prog X.w) X.A (truthy v) (TP X pins σ Q) X.xe s

def tOp (r : R2) (ta tb : TE) : TE := fun σ H Q => ta σ H fun x H1 => tb σ H1 fun y H2 => r x y H2 Q
def tUn (r : V → Hp → VK → Prop) (ta : TE) : TE := fun σ H Q => ta σ H fun x H1 => r x H1 Q
/-- ints in, under C, and a value out -/
def rI (C : Int → Int → Prop) (g : Int → Int → V) : R2 := fun x y H Q => ∃ i j, x = .int i ∧ y = .int j ∧ C i j ∧ Q (g i j) H
def rI0 (g : Int → Int → V) : R2 := fun x y H Q => ∃ i j, x = .int i ∧ y = .int j ∧ Q (g i j) H
def rU (g : Int → V) : V → Hp → VK → Prop := fun x H Q => ∃ i, x = .int i ∧ Q (g i) H

section
variable {X : Cx} {a b c : Expr} {ta tb tc : TE} {pos : Pos}

theorem binT (ha : PE X a ta) (hb : PE X b tb) {pins : List (Addr × Obj)} {s : Shared} {σ : St} {H : Hp} {R : V → V → Hp → Prop} (I : Inv X pins σ H s)
    (h : ta σ H fun x H1 => tb σ H1 fun y H2 => R x y H2) {Q : Value → Shared → Prop} {f : Value → Value → Sem Value}
    (hf : ∀ v u s2 x y H2, Inv X pins σ H2 s2 → RelV x v → RelV y u → R x y H2 → wpAny (model X.prog X.w) X.A (f v u) Q X.xe s2) :
    wpAny (model X.prog X.w) X.A (eval a X.env) (fun v s₁ => wpAny (model X.prog X.w) X.A (eval b X.env) (fun u s₂ => wpAny (model X.prog X.w) X.A (f v u) Q X.xe s₂) X.xe s₁) X.xe s := by
  refine thn (ha pins s σ H _ I h) fun v s1 ⟨x, H1, I1, r1, q1⟩ => ?_
  refine thn (hb pins s1 σ H1 _ I1 q1) fun u s2 ⟨y, H2, I2, r2, q2⟩ => ?_
  exact hf v u s2 x y H2 I2 r1 r2 q2

theorem pe_op {op : Operator} {r : R2} (ho : OpR X (binaryOp op) r) (ha : PE X a ta) (hb : PE X b tb) : PE X (.BinOp a op b pos) (tOp r ta tb) := by
  intro pins s σ H Q I h
  exact wpAny_BinOp (binT ha hb I h fun v u s2 x y H2 I2 rx ry q => ho pins s2 σ H2 x y v u Q I2 rx ry q)
theorem pe_un {op : UnaryOp} {r : V → Hp → VK → Prop} (ho : UnR X (unaryOp op) r) (ha : PE X a ta) : PE X (.UnaryOp op a pos) (tUn r ta) := by
  intro pins s σ H Q I h
  exact UnaryOp_ (thn (ha pins s σ H _ I h) fun v s1 ⟨x, H1, I1, r1, q1⟩ => ho pins s1 σ H1 x v Q I1 r1 q1)

/-! ### ints -/
theorem opI {f : Value → Value → Sem Value} {C : Int → Int → Prop} {g : Int → Int → Int}
    (rule : ∀ (i j : Int) (t u : Tok) (s : Shared) (Q : Value → Shared → Prop) (E : Value → Shared → Prop), C i j → Q (.int (g i j) s.toks) { s with toks := s.toks + 1 } → wpAny (model X.prog X.w) X.A (f (.int i t) (.int j u)) Q E s) :
    OpR X f (rI C fun i j => .int (g i j)) := by
  intro pins s σ H x y v u Q I rx ry h
  obtain ⟨i, j, rfl, rfl, hc, q⟩ := h
  obtain ⟨t, rfl⟩ := rx
  obtain ⟨t', rfl⟩ := ry
  exact rule i j t t' s _ _ hc ⟨.int (g i j), H, I.tok _, ⟨_, rfl⟩, q⟩
theorem opI0 {f : Value → Value → Sem Value} {g : Int → Int → Int}
    (rule : ∀ (i j : Int) (t u : Tok) (s : Shared) (Q : Value → Shared → Prop) (E : Value → Shared → Prop), Q (.int (g i j) s.toks) { s with toks := s.toks + 1 } → wpAny (model X.prog X.w) X.A (f (.int i t) (.int j u)) Q E s) :
    OpR X f (rI0 fun i j => .int (g i j)) := by
  intro pins s σ H x y v u Q I rx ry h
  obtain ⟨i, j, rfl, rfl, q⟩ := h
  obtain ⟨t, rfl⟩ := rx
  obtain ⟨t', rfl⟩ := ry
  exact rule i j t t' s _ _ ⟨.int (g i j), H, I.tok _, ⟨_, rfl⟩, q⟩
theorem opB0 {f : Value → Value → Sem Value} {g : Int → Int → Bool}
    (rule : ∀ (i j : Int) (t u : Tok) (s : Shared) (Q : Value → Shared → Prop) (E : Value → Shared → Prop), Q (.bool (g i j)) s → wpAny (model X.prog X.w) X.A (f (.int i t) (.int j u)) Q E s) :
    OpR X f (rI0 fun i j => .bl (g i j)) := by
  intro pins s σ H x y v u Q I rx ry h
  obtain ⟨i, j, rfl, rfl, q⟩ := h
  obtain ⟨t, rfl⟩ := rx
  obtain ⟨t', rfl⟩ := ry
  exact rule i j t t' s _ _ ⟨.bl (g i j), H, I, rfl, q⟩

def CDiv (i j : Int) : Prop := 0 < j ∧ j < 1073741824
def CDivN (i j : Int) : Prop := j ≠ 0 ∧ j.natAbs < 1073741824
def CPow (i j : Int) : Prop := 0 ≤ j ∧ j ≤ 1000000 ∧ i.natAbs < 2 ^ 64
def CMul (i j : Int) : Prop := (-(2 ^ 64) < i ∧ i < 2 ^ 64) ∨ (-(2 ^ 64) < j ∧ j < 2 ^ 64)
theorem CMul.ok {i j : Int} (h : CMul i j) : IntMulOk i j := by
  rcases h with ⟨h1, h2⟩ | ⟨h1, h2⟩
  · exact .of_left (intBits_le_64 h1 h2)
  · exact .of_right (intBits_le_64 h1 h2)

theorem op_add : OpR X (binaryOp .Add) (rI0 fun i j => .int (i + j)) := opI0 fun _ _ _ _ _ _ _ q => add_int q
theorem op_sub : OpR X (binaryOp .Sub) (rI0 fun i j => .int (i - j)) := opI0 fun _ _ _ _ _ _ _ q => sub_int q
theorem op_mul : OpR X (binaryOp .Mult) (rI CMul fun i j => .int (i * j)) := opI fun _ _ _ _ _ _ _ hc q => mul_int q hc.ok
/-- // by a positive divisor -/
theorem op_fdiv : OpR X (binaryOp .FloorDiv) (rI CDiv fun i j => .int (i / j)) := opI fun i j _ _ _ _ _ hc q => by
  have h1 : (0 : Int) < j := hc.1
  have h2 : j < 1073741824 := hc.2
  exact floordiv_int (by omega) (by rw [Int.fdiv_eq_ediv_of_nonneg i (by omega)]; exact q) (.inl (PyProof.noPylong_small (by omega)))
/-- % by a positive divisor of any size -/
theorem op_mod : OpR X (binaryOp .Mod) (rI (fun _ j => 0 < j) fun i j => .int (i % j)) := opI fun i j _ _ _ _ _ hc q => by
  have h1 : (0 : Int) < j := hc
  exact mod_int' (by omega) (by rw [Int.fmod_eq_emod_of_nonneg i (by omega)]; exact q)


theorem unI {f : Value → Sem Value} {g : Int → Int}
    (rule : ∀ (i : Int) (t : Tok) (s : Shared) (Q : Value → Shared → Prop) (E : Value → Shared → Prop), Q (.int (g i) s.toks) { s with toks := s.toks + 1 } → wpAny (model X.prog X.w) X.A (f (.int i t)) Q E s) :
    UnR X f (rU fun i => .int (g i)) := by
  intro pins s σ H x v Q I rx h
  obtain ⟨i, rfl, q⟩ := h
  obtain ⟨t, rfl⟩ := rx
  exact rule i t s _ _ ⟨.int (g i), H, I.tok _, ⟨_, rfl⟩, q⟩
theorem un_neg : UnR X (unaryOp .USub) (rU fun i => .int (-i)) := unI fun _ _ _ _ _ q => neg_int q

/-! ### bools among ints: n += (a < b) -/
end

/-! ### comparisons -/
/-- the scalars that == tells apart as data does -/
def scal : V → V → Bool
  | .non, .non => true | .non, .int _ => true | .int _, .non => true | .non, .bl _ => true | .bl _, .non => true | .non, .str _ => true | .str _, .non => true
  | .int _, .int _ => true | .bl _, .bl _ => true | .str _, .str _ => true | .byt _, .byt _ => true
  | .int _, .str _ => true | .str _, .int _ => true | .bl _, .str _ => true | .str _, .bl _ => true
  | _, _ => false
def rEq : R2 := fun x y H Q => scal x y = true ∧ Q (.bl (decide (x = y))) H
def rNe : R2 := fun x y H Q => scal x y = true ∧ Q (.bl (!decide (x = y))) H

theorem dec_int {i j : Int} : decide (V.int i = V.int j) = (i == j) := by
  rw [Bool.eq_iff_iff]
  simp
theorem dec_bl {i j : Bool} : decide (V.bl i = V.bl j) = (i == j) := by
  rw [Bool.eq_iff_iff]
  simp
theorem dec_str {i j : Str} : decide (V.str i = V.str j) = (i == j) := by
  rw [Bool.eq_iff_iff]
  simp
theorem dec_byt {i j : Array UInt8} : decide (V.byt i = V.byt j) = (i.toList == j.toList) := by
  rw [Bool.eq_iff_iff]
  cases i
  cases j
  simp

section
variable {X : Cx} {a b c : Expr} {ta tb tc : TE} {pos : Pos}
theorem fin_bl {pins : List (Addr × Obj)} {σ : St} {H : Hp} {s : Shared} {Q : VK} {k k' : Bool} (I : Inv X pins σ H s) (q : Q (.bl k) H) (e : k = k') : EP X pins σ Q (.bool k') s := by
  subst e
  exact ⟨.bl k, H, I, rfl, q⟩
theorem op_eq : OpR X (compareOp .Eq) rEq := by
  intro pins s σ H x y v u Q I rx ry h
  obtain ⟨hs, q⟩ := h
  cases x with
  | non =>
    cases rx
    cases y with
    | non => cases ry; exact PySem.EqNone.eq_none_none (fin_bl I q (by simp))
    | bl j => cases ry; exact PySem.EqNone.eq_none_bool (fin_bl I q (by simp))
    | int j => obtain ⟨t', rfl⟩ := ry; exact PySem.EqNone.eq_none_int (fin_bl I q (by simp))
    | str j => obtain ⟨t', rfl⟩ := ry; exact PySem.EqNone.eq_none_str (fin_bl I q (by simp))
    | _ => exact absurd (show false = true from hs) Bool.false_ne_true
  | bl i =>
    cases rx
    cases y with
    | non => cases ry; exact PySem.EqNone.eq_bool_none (fin_bl I q (by simp))
    | bl j => cases ry; exact eq_bool (fin_bl I q dec_bl)
    | str j => obtain ⟨t', rfl⟩ := ry; exact PySem.EqMixed.eq_bool_str (fin_bl I q (by simp))
    | _ => exact absurd (show false = true from hs) Bool.false_ne_true
  | int i =>
    obtain ⟨t, rfl⟩ := rx
    cases y with
    | non => cases ry; exact PySem.EqNone.eq_int_none (fin_bl I q (by simp))
    | int j => obtain ⟨t', rfl⟩ := ry; exact eq_int (fin_bl I q dec_int)
    | str j => obtain ⟨t', rfl⟩ := ry; exact PySem.EqMixed.eq_int_str (fin_bl I q (by simp))
    | _ => exact absurd (show false = true from hs) Bool.false_ne_true
  | str i =>
    obtain ⟨t, rfl⟩ := rx
    cases y with
    | non => cases ry; exact PySem.EqNone.eq_str_none (fin_bl I q (by simp))
    | bl j => cases ry; exact PySem.EqMixed.eq_str_bool (fin_bl I q (by simp))
    | int j => obtain ⟨t', rfl⟩ := ry; exact PySem.EqMixed.eq_str_int (fin_bl I q (by simp))
    | str j => obtain ⟨t', rfl⟩ := ry; exact eq_str (fin_bl I q dec_str)
    | _ => exact absurd (show false = true from hs) Bool.false_ne_true
  | byt i =>
    obtain ⟨t, rfl⟩ := rx
    cases y with
    | byt j => obtain ⟨t', rfl⟩ := ry; exact PySem.W.eq_bytes (fin_bl I q dec_byt)
    | _ => exact absurd (show false = true from hs) Bool.false_ne_true
  | _ => cases y <;> exact absurd (show false = true from hs) Bool.false_ne_true
theorem op_ne : OpR X (compareOp .NotEq) rNe := by
  intro pins s σ H x y v u Q I rx ry h
  obtain ⟨hs, q⟩ := h
  cases x with
  | non =>
    cases rx
    cases y with
    | non => cases ry; exact PySem.EqNone.ne_none_none (fin_bl I q (by simp))
    | bl j => cases ry; exact PySem.EqNone.ne_none_bool (fin_bl I q (by simp))
    | int j => obtain ⟨t', rfl⟩ := ry; exact PySem.EqNone.ne_none_int (fin_bl I q (by simp))
    | str j => obtain ⟨t', rfl⟩ := ry; exact PySem.EqNone.ne_none_str (fin_bl I q (by simp))
    | _ => exact absurd (show false = true from hs) Bool.false_ne_true
  | bl i =>
    cases rx
    cases y with
    | non => cases ry; exact PySem.EqNone.ne_bool_none (fin_bl I q (by simp))
    | bl j => cases ry; exact ne_bool (fin_bl I q (congrArg not dec_bl))
    | str j => obtain ⟨t', rfl⟩ := ry; exact PySem.EqMixed.ne_bool_str (fin_bl I q (by simp))
    | _ => exact absurd (show false = true from hs) Bool.false_ne_true
  | int i =>
    obtain ⟨t, rfl⟩ := rx
    cases y with
    | non => cases ry; exact PySem.EqNone.ne_int_none (fin_bl I q (by simp))
    | int j => obtain ⟨t', rfl⟩ := ry; exact ne_int (fin_bl I q (congrArg not dec_int))
    | str j => obtain ⟨t', rfl⟩ := ry; exact PySem.EqMixed.ne_int_str (fin_bl I q (by simp))
    | _ => exact absurd (show false = true from hs) Bool.false_ne_true
  | str i =>
    obtain ⟨t, rfl⟩ := rx
    cases y with
    | non => cases ry; exact PySem.EqNone.ne_str_none (fin_bl I q (by simp))
    | bl j => cases ry; exact PySem.EqMixed.ne_str_bool (fin_bl I q (by simp))
    | int j => obtain ⟨t', rfl⟩ := ry; exact PySem.EqMixed.ne_str_int (fin_bl I q (by simp))
    | str j => obtain ⟨t', rfl⟩ := ry; exact ne_str (fin_bl I q (congrArg not dec_str))
    | _ => exact absurd (show false = true from hs) Bool.false_ne_true
  | byt i =>
    obtain ⟨t, rfl⟩ := rx
    cases y with
    | byt j => obtain ⟨t', rfl⟩ := ry; exact PySem.W.ne_bytes (fin_bl I q (congrArg not dec_byt))
    | _ => exact absurd (show false = true from hs) Bool.false_ne_true
  | _ => cases y <;> exact absurd (show false = true from hs) Bool.false_ne_true

theorem op_lt : OpR X (compareOp .Lt) (rI0 fun i j => .bl (decide (i < j))) := opB0 fun _ _ _ _ _ _ _ q => lt_int q
theorem op_le : OpR X (compareOp .LtE) (rI0 fun i j => .bl (decide (i ≤ j))) := opB0 fun _ _ _ _ _ _ _ q => le_int q
theorem op_gt : OpR X (compareOp .Gt) (rI0 fun i j => .bl (decide (j < i))) := opB0 fun _ _ _ _ _ _ _ q => gt_int q

/-- is None, is not None: the right side a value none -/
theorem op_isN : OpR X (compareOp .Is) (fun x y H Q => y = .non ∧ Q (.bl (decide (x = .non))) H) := by
  intro pins s σ H x y v u Q I rx ry h
  obtain ⟨rfl, q⟩ := h
  cases ry
  refine is_none_gen (fin_bl I q ?_)
  cases x <;> first
    | (cases rx; rfl)
    | (obtain ⟨t, rfl⟩ := rx; rfl)
theorem op_notN : OpR X (compareOp .IsNot) (fun x y H Q => y = .non ∧ Q (.bl (!decide (x = .non))) H) := by
  intro pins s σ H x y v u Q I rx ry h
  obtain ⟨rfl, q⟩ := h
  cases ry
  refine isnot_none_gen (fin_bl I q ?_)
  cases x <;> first
    | (cases rx; rfl)
    | (obtain ⟨t, rfl⟩ := rx; rfl)

/-- is, is not of two objects that are tracked lists or instances -/
def isObj : HO → Bool
  | .lst _ => true
  | .ins _ _ _ => true
  | _ => false


theorem nomark (b : Expr) {op : CmpOp} (h : op ≠ .In := by decide) (h2 : op ≠ .NotIn := by decide) : behindInMarks op b = false := by
  have e1 : (op == CmpOp.In) = false := by cases op <;> first | rfl | exact absurd rfl h
  have e2 : (op == CmpOp.NotIn) = false := by cases op <;> first | rfl | exact absurd rfl h2
  cases b <;> simp [behindInMarks, e1, e2]
/-- a comparison as a value; hm: nomark b, or (for in, not in) by with_unfolding_all rfl -/
theorem pe_cmpR {op : CmpOp} {r : R2} (ho : OpR X (compareOp op) r) (ha : PE X a ta) (hb : PE X b tb) (hm : behindInMarks op b = false) : PE X (.Compare a [op] [b] pos) (tOp r ta tb) := by
  intro pins s σ H Q I h
  exact wpAny_Compare1 (binT ha hb I h fun v u s2 x y H2 I2 rx ry q => ho pins s2 σ H2 x y v u Q I2 rx ry q) hm
/-- a reading of a value as a test -/
def tTest (t : TE) : TT := fun σ H Q => t σ H fun x H' => ∃ k, x = .bl k ∧ Q k H'
theorem pt_cmpR {op : CmpOp} {r : R2} (ho : OpR X (compareOp op) r) (ha : PE X a ta) (hb : PE X b tb) (hm : behindInMarks op b = false) : PT X (.Compare a [op] [b] pos) (tTest (tOp r ta tb)) := by
  intro pins s σ H Q I h
  refine wpAny_isTrue_Compare1 (thn (ha pins s σ H _ I h) fun v s1 ⟨x, H1, I1, r1, q1⟩ => thn (hb pins s1 σ H1 _ I1 q1) fun u s2 ⟨y, H2, I2, r2, q2⟩ =>
    thn (ho pins s2 σ H2 x y v u _ I2 r1 r2 q2) fun c s3 ⟨z, H3, I3, r3, k, e, q3⟩ => ?_) hm
  subst e
  cases r3
  exact wpAny_truthy_bool ⟨H3, I3, q3⟩
/-- a op1 b op2 c -/
def tChain (r r' : R2) (ta tb tc : TE) : TE := fun σ H Q => ta σ H fun x H1 => tb σ H1 fun y H2 => r x y H2 fun z H3 => ∃ k, z = .bl k ∧
  (if k = true then tc σ H3 fun w' H4 => r' y w' H4 Q else Q (.bl false) H3)
theorem pe_chain {op op' : CmpOp} {r r' : R2} (ho : OpR X (compareOp op) r) (ho' : OpR X (compareOp op') r') (ha : PE X a ta) (hb : PE X b tb) (hc : PE X c tc)
    (hm : lastMarks [op, op'] [b, c] = false := by with_unfolding_all rfl) : PE X (.Compare a [op, op'] [b, c] pos) (tChain r r' ta tb tc) := by
  intro pins s σ H Q I h
  refine Compare_chain (thn (ha pins s σ H _ I h) fun v s1 ⟨x, H1, I1, r1, q1⟩ => chain_link (thn (hb pins s1 σ H1 _ I1 q1) fun u s2 ⟨y, H2, I2, r2, q2⟩ =>
    thn (ho pins s2 σ H2 x y v u _ I2 r1 r2 q2) fun d s3 ⟨z, H3, I3, r3, k, e, q3⟩ => ?_)) hm
  subst e
  cases r3
  refine wpAny_truthy_bool ?_
  cases k with
  | false => exact ite_ff ⟨.bl false, H3, I3, rfl, q3⟩
  | true => exact ite_tt (chain_last (thn (hc pins s3 σ H3 _ I3 q3) fun w' s4 ⟨z', H4, I4, r4, q4⟩ => ho' pins s4 σ H4 y z' u w' Q I4 r2 r4 q4))
theorem pt_chain {op op' : CmpOp} {r r' : R2} (ho : OpR X (compareOp op) r) (ho' : OpR X (compareOp op') r') (ha : PE X a ta) (hb : PE X b tb) (hc : PE X c tc)
    (hm : lastMarks [op, op'] [b, c] = false := by with_unfolding_all rfl) : PT X (.Compare a [op, op'] [b, c] pos) (tTest (tChain r r' ta tb tc)) := by
  intro pins s σ H Q I h
  refine isTrue_chain (thn (ha pins s σ H _ I h) fun v s1 ⟨x, H1, I1, r1, q1⟩ => test_link (thn (hb pins s1 σ H1 _ I1 q1) fun u s2 ⟨y, H2, I2, r2, q2⟩ =>
    thn (ho pins s2 σ H2 x y v u _ I2 r1 r2 q2) fun d s3 ⟨z, H3, I3, r3, k, e, q3⟩ => ?_)) hm
  subst e
  cases r3
  refine wpAny_truthy_bool ?_
  cases k with
  | false =>
    obtain ⟨k', e', q'⟩ := q3
    cases e'
    exact ite_ff ⟨H3, I3, q'⟩
  | true =>
    refine ite_tt (test_last (thn (hc pins s3 σ H3 _ I3 q3) fun w' s4 ⟨z', H4, I4, r4, q4⟩ => thn (ho' pins s4 σ H4 y z' u w' _ I4 r2 r4 q4) fun d' s5 ⟨z2, H5, I5, r5, k2, e2, q5⟩ => ?_))
    subst e2
    cases r5
    exact wpAny_truthy_bool ⟨H5, I5, q5⟩

/-! ### truth -/
/-- a value's truth by the abstract heap -/
def TruV (K : PySem.W.Frag) (x : V) (H : Hp) (k : Bool) : Prop :=
  match x with
  | .non => k = false
  | .bl b => k = b
  | .int i => k = (i != 0)
  | .str y => y.length ≤ sizeLine ∧ k = ((y.length : Int) != 0)
  | .byt y => y.size ≤ sizeLine ∧ k = ((y.size : Int) != 0)
  | .ref p => (∃ xs, SqL K H p xs ∧ k = !xs.isEmpty) ∨ (∃ xs, SqT K H p xs ∧ k = !xs.isEmpty) ∨ ∃ kvs, H p = some (.dK kvs) ∧ k = !kvs.isEmpty
  | _ => False
theorem line63 : (sizeLine : Nat) < 2 ^ 63 := by rw [sizeLine_eq]; decide

/-! ### strs and bytes -/

def PlainIxT (b : Expr) : Prop := ∀ o i, subscripted b false o i = operate [o, i] (getItem o i)

/-! ### scalar builtins, by CallR -/
theorem vals1 {x : V} {us : List Value} (r : Vals [x] us) : ∃ u, us = [u] ∧ RelV x u := by
  cases r with
  | cons r1 r2 => cases r2; exact ⟨_, rfl, r1⟩
theorem vals2 {x y : V} {us : List Value} (r : Vals [x, y] us) : ∃ u w', us = [u, w'] ∧ RelV x u ∧ RelV y w' := by
  cases r with
  | cons r1 r2 =>
    cases r2 with
    | cons r3 r4 => cases r4; exact ⟨_, _, rfl, r1, r3⟩
theorem call_abs : CallR X (.builtin "abs") (fun xs H Q => ∃ i, xs = [.int i] ∧ Q (.int (if i < 0 then -i else i)) H) := by
  intro pins s σ H xs us Q I r h
  obtain ⟨i, rfl, q⟩ := h
  obtain ⟨u, rfl, t, rfl⟩ := vals1 r
  exact call_abs_int fun u tk => ⟨.int (if i < 0 then -i else i), H, I.tok _, ⟨_, rfl⟩, q⟩
theorem call_max2 (hc : X.calm = true) : CallR X (.builtin "max") (fun xs H Q => ∃ i j, xs = [.int i, .int j] ∧ Q (.int (if j > i then j else i)) H) := by
  intro pins s σ H xs us Q I r h
  obtain ⟨i, j, rfl, q⟩ := h
  obtain ⟨u, w', rfl, ⟨t, rfl⟩, ⟨t', rfl⟩⟩ := vals2 r
  refine max_two_ints (I.ok.hd hc) fun h' tk k => ⟨_, H, I.kept k, ?_, q⟩
  by_cases hj : j > i
  · rw [if_pos hj, if_pos hj]; exact ⟨_, rfl⟩
  · rw [if_neg hj, if_neg hj]; exact ⟨_, rfl⟩
theorem call_min2 (hc : X.calm = true) : CallR X (.builtin "min") (fun xs H Q => ∃ i j, xs = [.int i, .int j] ∧ Q (.int (if j < i then j else i)) H) := by
  intro pins s σ H xs us Q I r h
  obtain ⟨i, j, rfl, q⟩ := h
  obtain ⟨u, w', rfl, ⟨t, rfl⟩, ⟨t', rfl⟩⟩ := vals2 r
  refine min_two_ints (I.ok.hd hc) fun h' tk k => ⟨_, H, I.kept k, ?_, q⟩
  by_cases hj : j < i
  · rw [if_pos hj, if_pos hj]; exact ⟨_, rfl⟩
  · rw [if_neg hj, if_neg hj]; exact ⟨_, rfl⟩
/-- len of a str, a bytes, a list, a tuple -/
def LenV (K : PySem.W.Frag) (x : V) (H : Hp) (n : Nat) : Prop :=
  match x with
  | .str y => y.length ≤ sizeLine ∧ n = y.length
  | .byt y => y.size ≤ sizeLine ∧ n = y.size
  | .ref p => (∃ xs, SqL K H p xs ∧ n = xs.length) ∨ ∃ xs, SqT K H p xs ∧ n = xs.length
  | _ => False
end
end L2

namespace L2
open PySem PySem.Spec PyProof.Rows

/-! ### an instance, its attributes a map -/
structure ObjM (h : Heap) (x dx C : Addr) (mA : Str → Option Value) : Prop where
  obj : h.get? x = some (PySem.W.instObj C dx)
  ns : h.Ns1 dx mA
  ne : dx ≠ x



section
variable {prog : Program} {w : World} {A : Around} {E : Value → Shared → Prop} {s : Shared} {K : PySem.W.Frag} {x dx C f : Addr} {mA : Str → Option Value} {name : Str} {v : Value}





end

/-! ### the attributes as a list of pairs -/
def putF (f : Str) (v : V) : List (Str × V) → List (Str × V)
  | [] => [(f, v)]
  | (g, x) :: r => if g = f then (g, v) :: r else (g, x) :: putF f v r


section
variable {P : Program} {w : World} {H H' : Hp} {h h' : Heap} {a C dx : Addr} {fs fs' : List (Str × V)}
end

/-! ### what of the text a class must have -/
structure Cls (K : PySem.W.Frag) (C : Addr) : Prop where
  pg : PySem.W.plainGet K C Str.empty = true
  hd : PySem.W.hasDictIn K C = true
  po : PySem.W.plainOver K C = true
  sa : PySem.W.findIn K (.ref C) "__setattr__" = some (some (.builtin "object.__setattr__"))
/-- no class of it has the name -/
def NoAttr (K : PySem.W.Frag) (C : Addr) (f : Str) : Prop := PySem.W.findIn K (.ref C) f = some none
/-- a constant of the class -/
structure Con (K : PySem.W.Frag) (C : Addr) (f : Str) (v : V) (u : Value) : Prop where
  at_ : PySem.W.findIn K (.ref C) f = some (some u)
  rel : RelV v u
  get : PySem.W.specialIn K u "__get__" = some none
  cp : PySem.W.copiedNames.contains f = false
/-- a method: a plain def of the class or of one above it -/
structure Meth (K : PySem.W.Frag) (C : Addr) (m : Str) (f : Addr) : Prop where
  at_ : PySem.W.findIn K (.ref C) m = some (some (.ref f))
  fn : PySem.W.isFn K (.ref f) = true
  kp : PySem.W.keepIn K (.ref f) = true

section
variable {X : Cx} {pins : List (Addr × Obj)} {σ : St} {H : Hp} {s : Shared} {a C dx : Addr} {fs : List (Str × V)} {f : Str} {v : V} {A : Around} {E : Value → Shared → Prop}






end

/-! ### readings and rules -/
/-- e.f, an attribute of the instance -/
def tFld (K : PySem.W.Frag) (ta : TE) (f : Str) : TE := fun σ H Q => ta σ H fun x H1 => ∃ a C dx fs v, x = .ref a ∧ H1 a = some (.ins C dx fs) ∧ Cls K C ∧ NoAttr K C f ∧ fs.lookup f = some v ∧ Q v H1
/-- e.f, a constant of the class -/
def tCon (K : PySem.W.Frag) (ta : TE) (f : Str) : TE := fun σ H Q => ta σ H fun x H1 => ∃ a C dx fs v u, x = .ref a ∧ H1 a = some (.ins C dx fs) ∧ Cls K C ∧ Con K C f v u ∧ fs.lookup f = none ∧ Q v H1
/-- e.f = value -/
def sFld (K : PySem.W.Frag) (ta tv : TE) (f : Str) : TS := fun D σ H => tv σ H fun y H1 => ta σ H1 fun x H2 => ∃ a C dx fs, x = .ref a ∧ H2 a = some (.ins C dx fs) ∧ Cls K C ∧ NoAttr K C f ∧ fs.length < 1000 ∧
  D.nx σ (upd H2 a (.ins C dx (putF f y fs)))
/-- an augmented operator on two values -/
def InOp (X : Cx) (op : Operator) (rd : V → V → Hp → VK → Prop) : Prop :=
  ∀ (pins : List (Addr × Obj)) (s : Shared) (σ : St) (H : Hp) (x y : V) (u v : Value) (Q : VK), Inv X pins σ H s → RelV x u → RelV y v → rd x y H Q → wpAny (model X.prog X.w) X.A (inplaceOp op u v) (EP X pins σ Q) X.xe s
/-- e.f op= value -/
def sFldAug (K : PySem.W.Frag) (ta tv : TE) (rd : V → V → Hp → VK → Prop) (f : Str) : TS := fun D σ H => ta σ H fun x H1 => ∃ a C dx fs v, x = .ref a ∧ H1 a = some (.ins C dx fs) ∧ Cls K C ∧ NoAttr K C f ∧ fs.lookup f = some v ∧
  tv σ H1 fun y H2 => rd v y H2 fun z H3 => ∃ dx' fs', H3 a = some (.ins C dx' fs') ∧ fs'.length < 1000 ∧ D.nx σ (upd H3 a (.ins C dx' (putF f z fs')))

section
variable {X : Cx} {o e value : Expr} {f : Str} {pos pos' tpos : Pos} {ta tv : TE}
def rAdd : V → V → Hp → VK → Prop := fun x y H Q => ∃ i j, x = .int i ∧ y = .int j ∧ Q (.int (i + j)) H
def rSub : V → V → Hp → VK → Prop := fun x y H Q => ∃ i j, x = .int i ∧ y = .int j ∧ Q (.int (i - j)) H

end

/-! ### isinstance -/
section
variable {X : Cx} {pins : List (Addr × Obj)} {σ : St} {H : Hp} {s : Shared} {A : Around} {E : Value → Shared → Prop} {Q : Value → Shared → Prop} {c : Value} {b : Bool}
/-- the type of a value, as the fragment's deciders take it; for an instance its class -/
inductive TyOf (K : PySem.W.Frag) (H : Hp) : V → Value → Prop where
  | non : TyOf K H .non (.type "NoneType")
  | bl (x : Bool) : TyOf K H (.bl x) (.type "bool")
  | int (i : Int) : TyOf K H (.int i) (.type "int")
  | str (x : Str) : TyOf K H (.str x) (.type "str")
  | flt (x : UInt64) : TyOf K H (.flt x) (.type "float")
  | lst {a : Addr} {xs : List V} (e : H a = some (.lst xs)) : TyOf K H (.ref a) (.type "list")
  | frz {a : Addr} {o : Obj} {xs : List V} (e : H a = some (.frz o (.lst xs))) : TyOf K H (.ref a) (.type "list")
  | tup {a : Addr} {xs : List V} (e : H a = some (.tup xs)) : TyOf K H (.ref a) (.type "tuple")
  | dK {a : Addr} {kvs : List (Key × V)} (e : H a = some (.dK kvs)) : TyOf K H (.ref a) (.type "dict")
  | dT {a : Addr} {kvs : List (List Key × V)} (e : H a = some (.dT kvs)) : TyOf K H (.ref a) (.type "dict")
  | ins {a C dx : Addr} {fs : List (Str × V)} (e : H a = some (.ins C dx fs)) (cl : Cls K C) (ha : PySem.W.findIn K (.ref C) "__class__" = some (some (.builtin "object.__class__")))
      (hn : PySem.W.specialIn K (.builtin "object.__class__") "__get__" = some (some (.builtin "getset_descriptor.__get__"))) (htk : PySem.W.takesIn K (.builtin "object.__class__") = some true)
      (hm : PySem.W.mroIn K C (.type "object") = some true) : TyOf K H (.ref a) (.ref C)
end
end L2

namespace L2
open PySem PySem.Spec PyProof.Rows

/-! ### room -/
structure Room (k : Nat) (A : Around) : Prop where
  hd : A.handled = none
  dp : A.depth + 3 * k + 5 < recursionLimit
  un : A.units + 16 * k + 200 < cLine
theorem Room.mono {j k : Nat} {A : Around} (r : Room k A) (h : j ≤ k) : Room j A := ⟨r.hd, by have := r.dp; omega, by have := r.un; omega⟩
theorem Room.deeper {k : Nat} {A : Around} (r : Room (k + 1) A) (env : Env) : Room k (A.deeper env) :=
  ⟨r.hd, by have := r.dp; show A.depth + 1 + 3 * k + 5 < _; omega, by have := r.un; show A.units + 3 + 16 * k + 200 < _; omega⟩
theorem Room.depth {k : Nat} {A : Around} (r : Room k A) : A.depth < recursionLimit := by have := r.dp; omega
theorem Room.units {k : Nat} {A : Around} (r : Room k A) : A.units + 64 < cLine := by have := r.un; omega

/-! ### argument lists and displays -/
def tNil : TA := fun _ H Q => Q [] H
def tCons (ta : TE) (tr : TA) : TA := fun σ H Q => ta σ H fun x H1 => tr σ H1 fun xs H2 => Q (x :: xs) H2
section
variable {X : Cx} {e : Expr} {es : List Expr} {te : TE} {t : TA} {pos : Pos}
theorem pa_nil : PA X [] tNil := fun _ _ _ _ H Q I h => Calls.spliced_nil ⟨[], H, I, .nil, h⟩
theorem pa_cons (ha : PE X e te) (hr : PA X es t) (hs : starEach (e :: es) X.env = (false, eval e X.env) :: starEach es X.env := by rfl) : PA X (e :: es) (tCons te t) := by
  intro pos pins s σ H Q I h
  rw [hs]
  show wpAny _ _ (spliced ((false, eval e X.env) :: backTo pos (starEach es X.env))) _ _ s
  refine Calls.spliced_cons (thn (ha pins s σ H _ I h) fun u s1 ⟨x, H1, I1, r1, q1⟩ => ?_)
  exact thn (hr pos pins s1 σ H1 _ I1 q1) fun us s2 ⟨xs, H2, I2, r2, q2⟩ => ⟨x :: xs, H2, I2, .cons r1 r2, q2⟩

/-- a tuple, a list of written items -/
def tTup (t : TA) : TE := fun σ H Q => t σ H fun xs H1 => xs.length ≤ sizeLine ∧ ∀ p, H1 p = none → Q (.ref p) (upd H1 p (.tup xs))
def tLst (t : TA) : TE := fun σ H Q => t σ H fun xs H1 => xs.length ≤ sizeLine ∧ ∀ p, H1 p = none → Q (.ref p) (upd H1 p (.lst xs))
theorem pe_tup {x1} (h : PA X es t) : PE X (.Tuple es x1 pos) (tTup t) := by
  intro pins s σ H Q I hq
  refine wpAny_Tuple_spliced (thn (h pos pins s σ H _ I hq) fun us s1 ⟨xs, H1, I1, r, z, q⟩ => ⟨by rw [← r.length]; exact z, ?_⟩)
  have hf : H1 s1.heap.objs.size = none := I1.hok.fresh (Nat.le_refl _)
  refine ⟨.ref s1.heap.objs.size, upd H1 s1.heap.objs.size (.tup xs), I1.laid (t' := s1.toks) (fun b u e => Heap.get?_push_of_some _ e) (Nat.le_refl _) ?_, rfl, q _ hf⟩
  exact ⟨z, us, r, ⟨_, Heap.get?_push_size _ rfl, rfl, _, rfl⟩⟩
theorem pe_lst (h : PA X es t) : PE X (.List es pos) (tLst t) := by
  intro pins s σ H Q I hq
  refine wpAny_List_spliced (thn (h pos pins s σ H _ I hq) fun us s1 ⟨xs, H1, I1, r, z, q⟩ => ⟨by rw [← r.length]; exact z, ?_⟩)
  have hf : H1 s1.heap.objs.size = none := I1.hok.fresh (Nat.le_refl _)
  refine ⟨.ref s1.heap.objs.size, upd H1 s1.heap.objs.size (.lst xs), I1.laid (t' := s1.toks) (fun b u e => Heap.get?_push_of_some _ e) (Nat.le_refl _) ?_, rfl, q _ hf⟩
  exact ⟨z, us, 0, r, Heap.get?_push_size _ rfl⟩
end

/-! ### what a def promises -/
/-- a def's promise: the bound arguments in the parameters' order, the heap, the wanted end, the wanted exception -/
abbrev Sp := List V → Hp → VK → XK → Prop
/-- how an exception lies behind a call (file 08 gives it): the callers' frames, abstract heap and state ahead of the call, the wish, the exception, the state -/
abbrev CXT := List Env → Hp → Shared → XK → Value → Shared → Prop

/-- the state at a call -/
structure Env0 (P : Program) (w : World) (K : PySem.W.Frag) (mg : Str → Option Value) (base : Heap) (A : Around) (outer : List Env) (s : Shared) (H : Hp) : Prop where
  frames : A.frames = some outer
  mod : Mod K mg base
  bs : ∀ b o, base.get? b = some o → s.heap.get? b = some o ∧ H b = none
  bsz : base.objs.size ≤ s.heap.objs.size
  funs : s.heap.FunFrames base outer
  frf : ∀ b ∈ frs outer, H b = none
  hok : HOk P w H s.heap
  bare : AllBare s.gens
/-- a call's end -/
def CE (outer : List Env) (P : Program) (w : World) (H : Hp) (s : Shared) (Q : VK) (u : Value) (s' : Shared) : Prop :=
  ∃ v H', s'.os = s.os ∧ AllBare s'.gens ∧ Un (frs outer) [] H H' s.heap s'.heap ∧ HOk P w H' s'.heap ∧ RelV v u ∧ Q v H'
def CR (CX : CXT) (outer : List Env) (P : Program) (w : World) (H : Hp) (s : Shared) (Q : VK) (E : XK) (r : Result) (s' : Shared) : Prop :=
  match r with
  | .ok (.ret u) => CE outer P w H s Q u s'
  | .ok _ => False
  | .error e => CX outer H s E e s'
structure FnOk (P : Program) (w : World) (K : PySem.W.Frag) (mg : Str → Option Value) (base : Heap) (CX : CXT) (k : Nat) (f : Addr) (fd : FuncData) (ps : List Str) (sp : Sp) : Prop where
  len : ∀ vs H Q E, sp vs H Q E → vs.length = ps.length
  run : ∀ (A : Around) (outer : List Env) (s : Shared) (H : Hp) (args : Args) (us : List Value) (vs : List V) (Q : VK) (E : XK), Room k A → Env0 P w K mg base A outer s H → BindsTo s fd args (ps.zip us) → Vals vs us → sp vs H Q E →
    codeAny (model P w) A (.call (.ref f) args) (CR CX outer P w H s Q E) s


section
variable {X : Cx} {pins : List (Addr × Obj)} {σ : St} {H : Hp} {s s' : Shared}
/-- from a body: what a callee wants -/
theorem Inv.env0 (I : Inv X pins σ H s) : Env0 X.prog X.w X.K X.mg X.base X.A X.stack s H :=
  ⟨I.ok.frames, I.ok.mod, I.bs, Nat.le_trans I.ok.bsz I.sz, I.stack, I.stkFree, I.hok, I.bare⟩
/-- behind a call -/
theorem Inv.after {Q : VK} {u : Value} (I : Inv X pins σ H s) (h : CE X.stack X.prog X.w H s Q u s') : EP X pins σ Q u s' := by
  obtain ⟨v, H', os, bare, un, hok, r, q⟩ := h
  obtain ⟨hh, g, d, t, os'⟩ := s'
  obtain rfl : os' = s.os := os
  exact ⟨v, H', I.call (h' := hh) (g' := g) (d' := d) (t' := t) (ch := []) un hok bare (fun b z => absurd z (by simp)), r, q⟩
end

/-! ### calls -/
/-- f(..): the written arguments, then the defaults dvs; E: what is wanted of an exception -/
def tCall (sp : Sp) (dvs : List V) (E : XK) (t : TA) : TE := fun σ H Q => t σ H fun vs H1 => sp (vs ++ dvs) H1 Q E
/-- o.m(..) of an instance of the class at C -/
def tMeth (C : Addr) (m : Str) (sp : Sp) (dvs : List V) (E : XK) (ta : TE) (t : TA) : TE := fun σ H Q => ta σ H fun x H1 => ∃ a dx fs, x = .ref a ∧ H1 a = some (.ins C dx fs) ∧ fs.lookup m = none ∧
  t σ H1 fun vs H2 => sp (x :: (vs ++ dvs)) H2 Q E
/-- C(..): a new instance and its dict, then __init__ -/
def tMake (C : Addr) (sp : Sp) (dvs : List V) (E : XK) (t : TA) : TE := fun σ H Q => t σ H fun vs H1 => ∀ x dx, H1 x = none → H1 dx = none → dx ≠ x →
  sp (.ref x :: (vs ++ dvs)) (upd (upd H1 dx (.own x)) x (.ins C dx [])) (fun v H2 => v = .non ∧ Q (.ref x) H2) E

/-- how the parameters are bound: us the positional arguments, kw the keywords' values by name, ds the defaults that fill up -/
def Binds (K : PySem.W.Frag) (fd : FuncData) (ps : List Str) (ds : List Value) : Prop :=
  ∀ (s : Shared) (us : List Value), K.In s.heap → (us ++ ds).length = ps.length → BindsTo s fd ⟨us, []⟩ (ps.zip (us ++ ds))
/-- every parameter is given -/
theorem Binds.all {K : PySem.W.Frag} {fd : FuncData} {ps : List Str} (h : ∀ us : List Value, us.length = ps.length → bindArgs fd ⟨us, []⟩ = pure (ps.zip us)) : Binds K fd ps [] := fun s us _ hl => by
  rw [List.append_nil] at hl ⊢
  exact .of_eq (h us hl)

/-- an exception of a callee reaches what this body wants of exceptions -/
def Passes (CX : CXT) (X : Cx) (E : XK) : Prop := ∀ (pins : List (Addr × Obj)) (σ : St) (H : Hp) (s : Shared) (e : Value) (s' : Shared), Inv X pins σ H s → CX X.stack H s E e s' → X.xe e s'

section
variable {X : Cx} {CX : CXT} {k : Nat} {f C : Addr} {fd : FuncData} {ps : List Str} {sp : Sp} {dvs : List V} {ds : List Value} {E : XK} {x m : Str} {p pos apos : Pos} {e o : Expr} {es : List Expr} {ta : TE} {t : TA}

/-- the callee runs -/
theorem run_fn {pins : List (Addr × Obj)} {σ : St} {H : Hp} {s : Shared} {Q : VK} {us : List Value} {vs : List V} (F : FnOk X.prog X.w X.K X.mg X.base CX k f fd ps sp) (hr : Room k X.A) (hb : Binds X.K fd ps ds) (hd : Vals dvs ds) (hx : Passes CX X E)
    (I : Inv X pins σ H s) (r : Vals vs us) (h : sp (vs ++ dvs) H Q E) : wpAny (model X.prog X.w) X.A (call (.ref f) us) (EP X pins σ Q) X.xe s := by
  have r2 : Vals (vs ++ dvs) (us ++ ds) := r.append hd
  have hl : (us ++ ds).length = ps.length := by rw [← r2.length]; exact F.len _ _ _ _ h
  refine wpAny_call (codeAny_mono (F.run X.A X.stack s H ⟨us, []⟩ (us ++ ds) (vs ++ dvs) Q E hr I.env0 (hb s us I.kIn hl) r2 h) fun r s' hq => ?_)
  cases r with
  | error e => exact hx pins σ H s e s' I hq
  | ok fl =>
    cases fl with
    | ret u => exact I.after hq
    | next => exact False.elim hq
    | brk => exact False.elim hq
    | cont => exact False.elim hq

theorem pe_call (F : FnOk X.prog X.w X.K X.mg X.base CX k f fd ps sp) (hr : Room k X.A) (hg : Gl X x) (hm : X.mg x = some (.ref f)) (hk : PySem.W.keepIn X.K (.ref f) = true) (hb : Binds X.K fd ps ds) (hd : Vals dvs ds) (hx : Passes CX X E)
    (ha : PA X (e :: es) t) (hdb : (x == ("__debug__" : Str)) = false := by decide) (he : starEach (e :: es) X.env = (false, eval e X.env) :: starEach es X.env := by rfl) (hpl : (backTo pos (starEach es X.env)).any (·.1) = false := by rfl) :
    PE X (.Call (.Name x p) (e :: es) [] pos) (tCall sp dvs E t) := by
  intro pins s σ H Q I h
  refine wpAny_Call_Name_kw (ld_glob I hg hm ?_ hdb)
  refine PySem.W.callWith_K (h₀ := X.base) I.ok.mod.kin hk (thn (ha pos pins s σ H _ I h) fun us s1 ⟨vs, H1, I1, r, q⟩ => ⟨I1.kIn, ?_⟩) he hpl
  exact run_fn F hr hb hd hx I1 r q


/-- what a class must have to be made -/
structure Mk (K : PySem.W.Frag) (C f : Addr) : Prop where
  makes : PySem.W.makesIn K C = true
  init : PySem.W.findIn K (.ref C) "__init__" = some (some (.ref f))
  fn : PySem.W.isFn K (.ref f) = true
  kp : PySem.W.keepIn K (.ref C) = true

end

/-! ### keywords -/
/-- the values of the keywords, from the left -/
def PK (X : Cx) (kws : List Keyword) (t : TA) : Prop :=
  ∀ (pos : Pos) (pins : List (Addr × Obj)) (s : Shared) (σ : St) (H : Hp) (Q : List V → Hp → Prop), Inv X pins σ H s → t σ H Q → wpAny (model X.prog X.w) X.A (evalAll ((backToKw pos (keywordEach kws X.env)).map (·.2))) (AP X pins σ Q) X.xe s
section
variable {X : Cx} {CX : CXT} {k : Nat} {f C : Addr} {fd : FuncData} {ps ks : List Str} {sp : Sp} {E : XK} {x m : Str} {p pos apos kpos : Pos} {e o : Expr} {es : List Expr} {kws : List Keyword} {te ta : TE} {t tk : TA} {nm : Option Str}

/-- how a call with keywords binds: g puts the positional values us and the keywords' values ws (names ks) in the parameters' order, defaults among them -/
structure KBinds (K : PySem.W.Frag) (fd : FuncData) (ps ks : List Str) (g : List Value → List Value → List Value) (gV : List V → List V → List V) : Prop where
  to : ∀ (s : Shared) (us ws : List Value), K.In s.heap → (g us ws).length = ps.length → BindsTo s fd ⟨us, ks.zip ws⟩ (ps.zip (g us ws))
  rel : ∀ {vs : List V} {us : List Value} {zs : List V} {ws : List Value}, Vals vs us → Vals zs ws → Vals (gV vs zs) (g us ws)
def tCallK (sp : Sp) (gV : List V → List V → List V) (E : XK) (t tk : TA) : TE := fun σ H Q => t σ H fun vs H1 => tk σ H1 fun zs H2 => sp (gV vs zs) H2 Q E
variable {g : List Value → List Value → List Value} {gV : List V → List V → List V}
end

/-! ### a def's body keeps its promise -/
/-- names: the parameters first -/
structure FnScope (N P : List Str) (sc : Scope) : Prop where
  kind : sc.kind = .function
  co : sc.isCoroutine = false
  gen : sc.isGenerator = false
  nd : N.Nodup
  pre : N.take P.length = P
  par : ∀ x ∈ P, sc.names.lookup x = some .local ∨ sc.names.lookup x = some .cell
  nofree : ∀ y ∈ sc.names, y.2 ≠ .free

theorem bindL_out {kindOf : Str → Option NameKind} {x : Str} : ∀ {binds : List (Str × Value)} {m : Str → Option Value}, (∀ v, (x, v) ∉ binds) → bindL kindOf binds m x = m x
  | [], _, _ => rfl
  | (n, v) :: r, m, h => by
    unfold bindL
    rw [bindL_out fun w hw => h w (List.mem_cons_of_mem _ hw)]
    split
    · have : x ≠ n := by rintro rfl; exact h v List.mem_cons_self
      simp [this]
    · rfl
theorem bindC_out {kindOf : Str → Option NameKind} {x : Str} : ∀ {binds : List (Str × Value)} {m : Str → Option Value}, (∀ v, (x, v) ∉ binds) → bindC kindOf binds m x = m x
  | [], _, _ => rfl
  | (n, v) :: r, m, h => by
    unfold bindC
    rw [bindC_out fun w hw => h w (List.mem_cons_of_mem _ hw)]
    split
    · rfl
    · have : x ≠ n := by rintro rfl; exact h v List.mem_cons_self
      simp [this]
theorem bindL_get {kindOf : Str → Option NameKind} {x : Str} {v : Value} : ∀ {P : List Str} {vs : List Value} {i : Nat} {m : Str → Option Value}, P.Nodup → P[i]? = some x → vs[i]? = some v → kindOf x = some .local →
    bindL kindOf (P.zip vs) m x = some v
  | [], _, _, _, _, h, _, _ => by simp at h
  | _ :: _, [], _, _, _, _, h, _ => by simp at h
  | p :: P, w :: vs, 0, m, nd, h1, h2, hk => by
    simp at h1 h2; subst h1; subst h2
    show bindL kindOf ((p, w) :: P.zip vs) m p = _
    unfold bindL
    rw [bindL_out fun v hv => (List.nodup_cons.mp nd).1 (List.of_mem_zip hv).1, if_pos hk]
    simp
  | p :: P, w :: vs, i + 1, m, nd, h1, h2, hk => by
    show bindL kindOf ((p, w) :: P.zip vs) m x = _
    unfold bindL
    exact bindL_get (i := i) (List.nodup_cons.mp nd).2 (by simpa using h1) (by simpa using h2) hk
theorem bindC_get {kindOf : Str → Option NameKind} {x : Str} {v : Value} : ∀ {P : List Str} {vs : List Value} {i : Nat} {m : Str → Option Value}, P.Nodup → P[i]? = some x → vs[i]? = some v → kindOf x ≠ some .local →
    bindC kindOf (P.zip vs) m x = some v
  | [], _, _, _, _, h, _, _ => by simp at h
  | _ :: _, [], _, _, _, _, h, _ => by simp at h
  | p :: P, w :: vs, 0, m, nd, h1, h2, hk => by
    simp at h1 h2; subst h1; subst h2
    show bindC kindOf ((p, w) :: P.zip vs) m p = _
    unfold bindC
    rw [bindC_out fun v hv => (List.nodup_cons.mp nd).1 (List.of_mem_zip hv).1, if_neg hk]
    simp
  | p :: P, w :: vs, i + 1, m, nd, h1, h2, hk => by
    show bindC kindOf ((p, w) :: P.zip vs) m x = _
    unfold bindC
    exact bindC_get (i := i) (List.nodup_cons.mp nd).2 (by simpa using h1) (by simpa using h2) hk

/-- the names' values at the entry -/
def start (N : List Str) (vs : List V) : St := vs.map some ++ List.replicate (N.length - vs.length) none

/-- the context of a def's body, at its entry; an exception leaves the frame, then lies as CX says -/
def cxOf (CX : CXT) (P : Program) (w : World) (K : PySem.W.Frag) (mg : Str → Option Value) (base : Heap) (N : List Str) (qual : Str) (scope : Scope) (f : Addr) (cd : Value) (A : Around) (outer : List Env) (s : Shared) (H : Hp) (E : XK) : Cx where
  prog := P
  w := w
  K := K
  mg := mg
  base := base
  A := A.deeper (envOfC qual scope s.heap.objs.size f cd)
  N := N
  s_0 := s
  H_0 := H
  env := envOfC qual scope s.heap.objs.size f cd
  outer := outer
  stack := envOfC qual scope s.heap.objs.size f cd :: outer
  ex := []
  calm := true
  fn := fun _ => true
  pn := []
  xe := fun e s' => wpAny (model P w) (A.deeper (envOfC qual scope s.heap.objs.size f cd)) (leaving (envOfC qual scope s.heap.objs.size f cd) e) (fun _ s'' => CX outer H s E e s'') (fun e' s'' => CX outer H s E e' s'') s'

theorem cell_has {sc : Scope} {n : Nat} {x : Str} (h : sc.names.lookup x = some .cell) : ∃ c, (cellsFrom n sc.names []).lookup x = some c := by
  have q := PySem.W.cellsFrom_some sc.names n [] (.inl h)
  exact Option.isSome_iff_exists.mp q

theorem inv_start {CX : CXT} {P : Program} {w : World} {K : PySem.W.Frag} {mg : Str → Option Value} {base : Heap} {N ps : List Str} {qual : Str} {scope : Scope} {f : Addr} {cd : Value} {A : Around} {outer : List Env} {s s1 : Shared} {H : Hp} {E : XK} {us : List Value} {vs : List V}
    (S : FnScope N ps scope) (hd : A.handled = none) (e0 : Env0 P w K mg base A outer s H) (hl : vs.length = ps.length) (r : Vals vs us)
    (x : InCallC s s.heap.objs.size (bindL (envOfC qual scope s.heap.objs.size f cd).kindOf (ps.zip us) fun _ => none) (cellsFrom (s.heap.objs.size + 1) scope.names []) (bindC (envOfC qual scope s.heap.objs.size f cd).kindOf (ps.zip us) fun _ => none) s1) :
    Inv (cxOf CX P w K mg base N qual scope f cd A outer s H E) [] (start N vs) H s1 := by
  have hpl : ps.length ≤ N.length := by have := congrArg List.length S.pre; rw [List.length_take] at this; omega
  obtain ⟨h1, tk, rfl, hk⟩ := x.done
  have noA : ∀ b : Addr, b ∉ (cxOf CX P w K mg base N qual scope f cd A outer s H E).ex := fun b z => absurd (show b ∈ ([] : List Addr) from z) (by simp)
  refine ⟨⟨e0.mod, S.kind, rfl, rfl, Nat.le_refl _, fun y z c h1 h2 => ?_, fun y hy => ?_, fun y c _ h => ?_, fun _ => hd, Around.frames_deeper e0.frames, .inr ⟨rfl, rfl⟩, fun b z => absurd z (noA b), e0.bs, e0.bsz, fun b _ _ => noA b, fun b z => absurd z (noA b), e0.funs, e0.frf⟩,
    rfl, e0.bare, Un.kept hk, ⟨_, x.toInCall.ns, fun i y v h1 h2 h3 => ?_⟩, fun y c h => ⟨_, x.cell y c h⟩, e0.hok.fresh (Nat.le_refl _), fun y c h => ?_, fun p hp => absurd (show p ∈ ([] : List (Addr × Obj)) from hp) (by simp), e0.hok.kept hk, ?_⟩
  · exact name_of_addr x.apart (PySem.mem_of_lookup h1) (PySem.mem_of_lookup h2)
  · have hy : scope.names.lookup y = some .cell ∨ scope.names.lookup y = some .free := hy
    rcases hy with hy | hy
    · exact cell_has hy
    · exact absurd rfl (S.nofree _ (PySem.mem_of_lookup hy))
  · exact Nat.le_of_lt (x.above y c (PySem.mem_of_lookup h))
  · have hi : i < vs.length := by
      unfold start at h2
      by_cases hi : i < vs.length
      · exact hi
      · rw [List.getElem?_append_right (by simpa using hi)] at h2
        rw [List.getElem?_replicate] at h2
        split at h2 <;> cases h2
    have ha : vs[i]? = some v := by
      unfold start at h2
      rw [List.getElem?_append_left (by simpa using hi), List.getElem?_map] at h2
      cases e : vs[i]? with
      | none => rw [e] at h2; cases h2
      | some a => rw [e] at h2; cases h2; rfl
    obtain ⟨u, hu, rv⟩ := r.get ha
    have hp : ps[i]? = some y := by
      rw [← S.pre, List.getElem?_take_of_lt (by omega)]; exact h1
    have ndP : ps.Nodup := by rw [← S.pre]; exact S.nd.sublist (List.take_sublist _ _)
    refine ⟨u, rv, ?_⟩
    rcases S.par y (List.mem_of_getElem? hp) with k | k
    · exact .inl ⟨k, bindL_get ndP hp hu k⟩
    · obtain ⟨c, e⟩ := cell_has (n := s.heap.objs.size + 1) k
      refine .inr ⟨.inl k, c, e, ?_⟩
      have q := x.cell y c e
      rw [bindC_get ndP hp hu (by show scope.names.lookup y ≠ _; rw [k]; decide)] at q
      exact q
  · exact e0.hok.fresh (Nat.le_of_lt (x.above y c (PySem.mem_of_lookup h)))
  · unfold start
    show _ = N.length
    rw [List.length_append, List.length_map, List.length_replicate]
    omega

/-- THE RULE: a def (or a method) of the text, by its body. The body's reading t is chosen for each entry; it is run at the parameters' values -/
theorem fn_of {CX : CXT} {P : Program} {w : World} {K : PySem.W.Frag} {mg : Str → Option Value} {base : Heap} {k : Nat} {f : Addr} {name qual : Str} {params : Arguments} {body : List Stmt} {scope : Scope} {dV kV doc pm cdv ct oc : Value} {an od : Option Addr}
    {osl : Array (Option Value)} {N ps : List Str} {sp : Sp} (lk : K.lookup f = some ⟨oc, od, .func (PySem.W.fnOf name qual params body scope dV kV doc pm an cdv ct), osl⟩) (hcd : PySem.W.codeIn K cdv qual = true) (S : FnScope N ps scope)
    (len : ∀ vs H Q E, sp vs H Q E → vs.length = ps.length)
    (hbody : ∀ (A : Around) (outer : List Env) (s : Shared) (H : Hp) (vs : List V) (Q : VK) (E : XK), Room k (A.deeper (envOfC qual scope s.heap.objs.size f cdv)) → sp vs H Q E →
      ∃ t, PSs (cxOf CX P w K mg base N qual scope f cdv A outer s H E) body t ∧ t { nx := fun _ H' => Q .non H', rt := Q } (start N vs) H) :
    FnOk P w K mg base CX (k + 1) f (PySem.W.fnOf name qual params body scope dV kV doc pm an cdv ct) ps sp := by
  refine ⟨len, fun A outer s H args us vs Q E hr e0 hb r hsp => ?_⟩
  have hl := len _ _ _ _ hsp
  have KX : K.In s.heap := e0.mod.kin.keeps fun b o e => (e0.bs b o e).1
  have lim : s.heap.NoLimit := e0.mod.nolimit.keeps fun b o e => (e0.bs b o e).1
  have hkind : ∀ y ∈ ps.zip us, scope.names.lookup y.1 = some .local ∨ (scope.names.lookup y.1 = some .cell ∧ ((cellsFrom (s.heap.objs.size + 1) scope.names []).lookup y.1).isSome = true) := fun ⟨n, v⟩ hy => by
    rcases S.par n (List.of_mem_zip hy).1 with q | q
    · exact .inl q
    · exact .inr ⟨q, PySem.W.cellsFrom_some _ _ _ (.inl q)⟩
  refine codeAny_call_function hr.depth (KX _ _ lk) rfl S.co S.gen rfl (PySem.W.codeRec_of KX hcd) (hb _ _ _ _ ?_)
  refine wpAny_newFunctionEnv_cells S.kind hkind fun env he s1 x => ?_
  subst he
  refine ⟨lim.keeps x.toInCall.keep, codeAny_func ?_⟩
  obtain ⟨t, ht, hq⟩ := hbody A outer s H vs Q E (hr.deeper _) hsp
  have I : Inv (cxOf CX P w K mg base N qual scope f cdv A outer s H E) [] (start N vs) H s1 := inv_start S hr.hd e0 hl r x
  refine wpAny_mono (ht [] s1 (start N vs) H _ I hq) (fun fl s' hs => ?_) fun e s' hs => hs
  have fin : ∀ {σ' : St} {H' : Hp} {v : V} {u : Value}, Inv (cxOf CX P w K mg base N qual scope f cdv A outer s H E) [] σ' H' s' → RelV v u → Q v H' → CE outer P w H s Q u s' :=
    fun {σ' H' v u} J rv q => ⟨v, H', J.os, J.bare, J.base, J.hok, rv, q⟩
  cases fl with
  | ret u =>
    obtain ⟨v, σ', H', J, rv, q⟩ := hs
    exact fin J rv q
  | next =>
    obtain ⟨σ', H', J, q⟩ := hs
    exact fin (v := V.non) (u := Value.none) J rfl q
  | brk =>
    obtain ⟨_, _, _, q⟩ := hs
    exact False.elim q
  | cont =>
    obtain ⟨_, _, _, q⟩ := hs
    exact False.elim q
end L2

namespace L2
open PySem PySem.Spec PyProof.Rows
section
variable {X : Cx} {x : Str} {p pos : Pos} {e : Expr} {es : List Expr} {t : TA} {id T : String} {r : List V → Hp → VK → Prop}

def tCB (r : List V → Hp → VK → Prop) (t : TA) : TE := fun σ H Q => t σ H fun vs H1 => r vs H1 Q
/-- f(e, ..), f a built-in function -/
theorem pe_callB (hc : CallR X (.builtin id) r) (hg : Gl X x) (hm : X.mg x = none) (hv : bootBuiltins x = some (.builtin id)) (ha : PA X (e :: es) t) (hn : x ≠ "__name__" := by decide) (hdb : (x == ("__debug__" : Str)) = false := by decide)
    (he : starEach (e :: es) X.env = (false, eval e X.env) :: starEach es X.env := by rfl) (hpl : (backTo pos (starEach es X.env)).any (·.1) = false := by rfl) : PE X (.Call (.Name x p) (e :: es) [] pos) (tCB r t) := by
  intro pins s σ H Q I h
  refine wpAny_Call_Name_kw (ld_blt I hg hm hv ?_ hn hdb)
  exact PyProof.Rows.callWith_builtin1 (thn (ha pos pins s σ H _ I h) fun us s1 ⟨vs, H1, I1, r1, q1⟩ => hc pins s1 σ H1 vs us Q I1 r1 q1) he hpl
end
end L2

namespace HT
open PySem PyProof.Rows

/-- t < u of tuples of ints -/
def lexLt : List Int → List Int → Bool
  | [], [] => false
  | [], _ :: _ => true
  | _ :: _, [] => false
  | x :: xs, y :: ys => if x = y then lexLt xs ys else decide (x < y)


section
open PySem.SeqAt
open PySem.AutoSeq1 (wpAny_loadPart')
open PySem.MeetsSeq PySem.MeetsSeq2 PySem.MeetsSeq3

end

section
variable {prog : Program} {w : World} {A : Around} {E : Value → Shared → Prop} {s : Shared}



/-! ### t[a:b], not the whole -/
/-- a slice's bound as a place among n (d where it is left out) -/
def sIx (n d : Nat) : Option Int → Nat
  | none => d
  | some v => if v < 0 then (v + (n : Int)).toNat else min v.toNat n

end
end HT

namespace L2
open PySem PySem.Spec PyProof.Rows

/-! ### the parts of a slice -/
abbrev TO := St → Hp → (Option Int → Hp → Prop) → Prop
/-- a slice's part (left out, or an int) -/
def PO (X : Cx) (e : Option Expr) (t : TO) : Prop :=
  ∀ (pins : List (Addr × Obj)) (s : Shared) (σ : St) (H : Hp) (Q : Option Int → Hp → Prop), Inv X pins σ H s → t σ H Q →
    wpAny (model X.prog X.w) X.A (evalPart e X.env) (fun u s' => ∃ o H', Inv X pins σ H' s' ∧ IsPart u o ∧ Q o H') X.xe s
def tNoPart : TO := fun _ H Q => Q none H
def tPart (t : TE) : TO := fun σ H Q => t σ H fun x H1 => ∃ i, x = .int i ∧ Q (some i) H1


section
variable {X : Cx} {e : Expr} {te : TE} {lo hi : Option Expr} {tl th : TO} {pos p2 : Pos}


/-- what a slice of a value is, by values: the slice object stands at sl -/
def SlR (X : Cx) (r : V → Option Int → Option Int → Hp → VK → Prop) : Prop :=
  ∀ (pins : List (Addr × Obj)) (s : Shared) (σ : St) (H : Hp) (x : V) (v vl vu : Value) (lo hi : Option Int) (sl : Addr) (Q : VK), Inv X pins σ H s → RelV x v → s.heap.IsSliceOf sl vl vu .none → IsPart vl lo → IsPart vu hi → r x lo hi H Q →
    ∃ T id, typeLookup (.type T) "__getitem__" = pure (some (.builtin id)) ∧ s.TypeIs v T ∧ wpAny (model X.prog X.w) X.A (getItem v (.ref sl)) (EP X pins σ Q) X.xe s
def tSl (r : V → Option Int → Option Int → Hp → VK → Prop) (te : TE) (tl th : TO) : TE := fun σ H Q => te σ H fun x H1 => tl σ H1 fun l H2 => th σ H2 fun u H3 => r x l u H3 Q

/-- the items of xs[lo:hi] -/
def cutV (xs : List V) (lo hi : Option Int) : List V := (xs.drop (HT.sIx xs.length 0 lo)).take (HT.sIx xs.length xs.length hi - HT.sIx xs.length 0 lo)
/-- t[lo:hi], not the whole of it (the whole would be t itself) -/
def rSlT (K : PySem.W.Frag) : V → Option Int → Option Int → Hp → VK → Prop := fun x lo hi H Q => ∃ a xs, x = .ref a ∧ SqT K H a xs ∧
  ¬ (HT.sIx xs.length 0 lo = 0 ∧ HT.sIx xs.length xs.length hi = xs.length) ∧ ∀ p, H p = none → Q (.ref p) (upd H p (.tup (cutV xs lo hi)))

/-! ### t < u, t + u -/
def rLtT (K : PySem.W.Frag) : R2 := fun x y H Q => ∃ a b ns ms, x = .ref a ∧ y = .ref b ∧ SqT K H a (ns.map V.int) ∧ SqT K H b (ms.map V.int) ∧ Q (.bl (HT.lexLt ns ms)) H
/-- t + u, t not empty: u empty gives t itself -/
def rCatT (K : PySem.W.Frag) : R2 := fun x y H Q => ∃ a b xs ys, x = .ref a ∧ y = .ref b ∧ SqT K H a xs ∧ SqT K H b ys ∧ xs ≠ [] ∧ xs.length + ys.length ≤ sizeLine ∧
  (ys = [] → Q (.ref a) H) ∧ (ys ≠ [] → ∀ p, H p = none → Q (.ref p) (upd H p (.tup (xs ++ ys))))
end
end L2

namespace L2
open PySem PySem.Spec PyProof.Rows

/-! ### places -/
/-- the place that an index of any sign means -/
def ixN (n : Nat) (i : Int) : Option Nat := if 0 ≤ i then (if i < n then some i.toNat else none) else if -(n : Int) ≤ i then some (i + n).toNat else none
def atI {α : Type} (xs : List α) (i : Int) : Option α := (ixN xs.length i).bind fun j => xs[j]?
theorem ixN_seq {n : Nat} {i : Int} {j : Nat} (h : ixN n i = some j) : seqIndex? i n = some j ∧ j < n ∧ -(n : Int) ≤ i ∧ i < n := by
  unfold ixN at h
  by_cases h0 : 0 ≤ i
  · rw [if_pos h0] at h
    by_cases h1 : i < n
    · rw [if_pos h1] at h
      have e : i.toNat = j := Option.some.inj h
      exact ⟨by rw [seqIndex_of h0 h1, e], by omega, by omega, h1⟩
    · rw [if_neg h1] at h; cases h
  · rw [if_neg h0] at h
    by_cases h1 : -(n : Int) ≤ i
    · rw [if_pos h1] at h
      have e : (i + n).toNat = j := Option.some.inj h
      exact ⟨by rw [seqIndex_neg (by omega) h1, e], by omega, h1, by omega⟩
    · rw [if_neg h1] at h; cases h
theorem atI_get {α : Type} {xs : List α} {i : Int} {v : α} (h : atI xs i = some v) : ∃ j, seqIndex? i xs.length = some j ∧ xs[j]? = some v ∧ j < xs.length ∧ -(xs.length : Int) ≤ i ∧ i < xs.length := by
  unfold atI at h
  cases e : ixN xs.length i with
  | none => rw [e] at h; cases h
  | some j =>
    rw [e] at h
    obtain ⟨h1, h2, h3, h4⟩ := ixN_seq e
    exact ⟨j, h1, h, h2, h3, h4⟩
theorem atI_nat {α : Type} {xs : List α} {j : Nat} {v : α} (h : xs[j]? = some v) : atI xs (j : Int) = some v := by
  have hj : j < xs.length := (List.getElem?_eq_some_iff.mp h).1
  have e : ixN xs.length (j : Int) = some j := by
    unfold ixN
    rw [if_pos (by omega), if_pos (by omega)]; simp
  unfold atI; rw [e]; exact h

/-! ### what may be subscripted -/
/-- what stands as an index of a plain subscript -/
def PlainIx (b : Expr) : Prop := ∀ o i, subscripted b false o i = operate [o, i] (getItem o i)
/-- a subscript by values -/
def IxR (X : Cx) (r : R2) : Prop :=
  ∀ (value slice : Expr) (pins : List (Addr × Obj)) (s : Shared) (σ : St) (H : Hp) (x y : V) (v u : Value) (Q : VK), Inv X pins σ H s → RelV x v → RelV y u → r x y H Q →
    subscripted slice false v u = operate [v, u] (getItem v u) → wpAny (model X.prog X.w) X.A (subscriptTail value slice v u) (EP X pins σ Q) X.xe s
/-- a call of a builtin's method by values: the receiver, the arguments -/
def MtR (X : Cx) (id : String) (r : V → List V → Hp → VK → Prop) : Prop :=
  ∀ (pins : List (Addr × Obj)) (s : Shared) (σ : St) (H : Hp) (x : V) (xs : List V) (v : Value) (us : List Value) (Q : VK), Inv X pins σ H s → RelV x v → Vals xs us → r x xs H Q →
    wpAny (model X.prog X.w) X.A (call (.builtin id) (v :: us)) (EP X pins σ Q) X.xe s
section
variable {X : Cx} {a b : Expr} {ta tb : TE} {pos : Pos}
/-- a[b] -/
theorem pe_ix {r : R2} (hr : IxR X r) (ha : PE X a ta) (hb : PE X b tb) (hs : PlainIx b) : PE X (.Subscript a b pos) (tOp r ta tb) := by
  intro pins s σ H Q I h
  exact Subscript_ (binT ha hb I h fun v u s2 x y H2 I2 rx ry q => hr a b pins s2 σ H2 x y v u Q I2 rx ry q (hs _ _))

def rIxL (K : PySem.W.Frag) : R2 := fun x y H Q => ∃ p xs i v, x = .ref p ∧ y = .int i ∧ SqL K H p xs ∧ atI xs i = some v ∧ Q v H
def rIxT (K : PySem.W.Frag) : R2 := fun x y H Q => ∃ p xs i v, x = .ref p ∧ y = .int i ∧ SqT K H p xs ∧ atI xs i = some v ∧ Q v H
def rIxS : R2 := fun x y H Q => ∃ z i c, x = .str z ∧ y = .int i ∧ z.length ≤ sizeLine ∧ atI z.cps.toList i = some c ∧ Q (.str ⟨#[c]⟩) H
theorem ix_list : IxR X (rIxL X.K) := by
  intro value slice pins s σ H x y v u Q I rx ry h hs
  obtain ⟨p, xs, i, z, rfl, rfl, hq, he, q⟩ := h
  cases rx
  obtain ⟨t, rfl⟩ := ry
  obtain ⟨its, r, pl, hz⟩ := I.list hq
  obtain ⟨j, h1, h2, h3, h4, h5⟩ := atI_get he
  obtain ⟨w, ew, rw'⟩ := r.get h2
  have hl := r.length
  have hn := line63
  have fin : EP X pins σ Q w s := ⟨z, H, I, rw', q⟩
  by_cases h0 : 0 ≤ i
  · have hj : i.toNat = j := by
      rw [seqIndex_of h0 h5] at h1
      exact Option.some.inj h1
    exact item_listR pl.isList h0 (by omega) (by rw [hj]; simpa using ew) fin hs
  · have hj : (i + (its.toArray.size : Int)).toNat = j := by
      rw [seqIndex_neg (by omega) h4] at h1
      rw [List.size_toArray, ← hl]
      exact Option.some.inj h1
    exact subscriptTail_builtinR (x := w) pl.isList.typeIs slot_list_getitem.lookup
      (wpAny_getItem_list_neg (Q := fun r s' => r = w ∧ EP X pins σ Q r s') pl.isList (by omega) (by rw [List.size_toArray] <;> omega) (by omega) (by rw [hj]; simpa using ew) ⟨rfl, fin⟩) hs
theorem ix_tup : IxR X (rIxT X.K) := by
  intro value slice pins s σ H x y v u Q I rx ry h hs
  obtain ⟨p, xs, i, z, rfl, rfl, hq, he, q⟩ := h
  cases rx
  obtain ⟨t, rfl⟩ := ry
  obtain ⟨its, r, pl, hz⟩ := I.tuple hq
  obtain ⟨j, h1, h2, h3, h4, h5⟩ := atI_get he
  obtain ⟨w, ew, rw'⟩ := r.get h2
  have hl := r.length
  have hn := line63
  have fin : EP X pins σ Q w s := ⟨z, H, I, rw', q⟩
  exact subscriptTail_builtinR (x := w) pl.typeIs slot_tuple_getitem.lookup
    (getItem_tuple (j := j) (Q := fun r s' => r = w ∧ EP X pins σ Q r s') pl (by omega) (by omega) (by rw [List.size_toArray, ← hl]; exact h1) (by simpa using ew) ⟨rfl, fin⟩) hs
/-- list, tuple or str -/
def rIx (K : PySem.W.Frag) : R2 := fun x y H Q => rIxL K x y H Q ∨ rIxT K x y H Q ∨ rIxS x y H Q

/-! ### xs[i] = v, any sign -/
def rSetL : V → V → V → Hp → (Hp → Prop) → Prop := fun o i v H Q => ∃ p xs k j, o = .ref p ∧ i = .int k ∧ H p = some (.lst xs) ∧ ixN xs.length k = some j ∧ Q (upd H p (.lst (xs.set j v)))

/-! ### slices -/
/-- xs[lo:hi] of a list: a new list -/
def rSlL (K : PySem.W.Frag) : V → Option Int → Option Int → Hp → VK → Prop := fun x lo hi H Q => ∃ a xs, x = .ref a ∧ SqL K H a xs ∧ ∀ p, H p = none → Q (.ref p) (upd H p (.lst (cutV xs lo hi)))

/-! ### in, not in: flat items -/
def flatV : V → Bool
  | .non => true
  | .bl _ => true
  | .int _ => true
  | .str _ => true
  | _ => false
/-- == of flat values -/
def eqV : V → V → Bool
  | .non, .non => true
  | .bl a, .bl b => a == b
  | .bl a, .int b => (if a then 1 else 0) == b
  | .int a, .bl b => a == (if b then 1 else 0)
  | .int a, .int b => a == b
  | .str a, .str b => a == b
  | _, _ => false
/-- the items' answers, read off the values (a value's own answer does not lean on its token) -/
def eqU (x : V) (u : Value) : Bool := match u with
  | .none => eqV .non x
  | .bool b => eqV (.bl b) x
  | .int i _ => eqV (.int i) x
  | .str z _ => eqV (.str z) x
  | _ => false
def inV (x : V) (xs : List V) : Bool := xs.any fun y => eqV y x
/-- x in a list or tuple of flat items -/
def rIn (K : PySem.W.Frag) (neg : Bool) : R2 := fun x y H Q => ∃ p xs, y = .ref p ∧ (SqL K H p xs ∨ SqT K H p xs) ∧ flatV x = true ∧ xs.all flatV = true ∧ Q (.bl (if neg then !inV x xs else inV x xs)) H

/-! ### len, list(x), tuple(x) of any list or tuple that is read -/
theorem call_len_seq : CallR X (.builtin "len") (fun xs H Q => ∃ p ys, xs = [.ref p] ∧ (SqL X.K H p ys ∨ SqT X.K H p ys) ∧ Q (.int ys.length) H) := by
  intro pins s σ H xs us Q I r h
  obtain ⟨p, ys, rfl, hq, q⟩ := h
  obtain ⟨u, rfl, rx⟩ := vals1 r
  cases rx
  have hn := line63
  rcases hq with hq | hq
  · obtain ⟨its, r', pl, hz⟩ := I.list hq
    have hlen := r'.length
    exact Calls.call_len_list pl.isList (by simp only [List.size_toArray] <;> omega) ⟨.int ys.length, H, I.tok _, ⟨s.toks + 1, by rw [List.size_toArray, hlen]⟩, q⟩
  · obtain ⟨its, r', pl, hz⟩ := I.tuple hq
    have hlen := r'.length
    exact len_tuple pl (by simp only [List.size_toArray] <;> omega) ⟨.int ys.length, H, I.tok _, ⟨s.toks + 1, by rw [List.size_toArray, hlen]⟩, q⟩

/-! ### the call of a builtin's method: o.m(..) -/
/-- the value is of that builtin type -/
def tyV (K : PySem.W.Frag) (T : String) (x : V) (H : Hp) : Prop := match x with
  | .str _ => T = "str"
  | .int _ => T = "int"
  | .ref p => (T = "list" ∧ ∃ xs, SqL K H p xs) ∨ (T = "tuple" ∧ ∃ o, K.lookup p = some o ∧ o.cls = .type "tuple" ∧ o.dict = none) ∨
      (T = "dict" ∧ ((∃ kvs, H p = some (.dK kvs)) ∨ ∃ kvs, H p = some (.dT kvs))) ∨ (T = "set" ∧ ∃ S n, H p = some (.set S n))
  | _ => False
theorem tyV_is {pins : List (Addr × Obj)} {σ : St} {H : Hp} {s : Shared} {T : String} {x : V} {v : Value} (I : Inv X pins σ H s) (r : RelV x v) (ty : tyV X.K T x H) :
    s.TypeIs v T ∧ ∀ a, v = .ref a → ∃ ob, s.heap.get? a = some ob ∧ ob.dict = none := by
  cases x with
  | str z =>
    obtain ⟨t, rfl⟩ := r
    cases (show T = "str" from ty)
    exact ⟨typeIs_str s z t, fun _ e => nomatch e⟩
  | int i =>
    obtain ⟨t, rfl⟩ := r
    cases (show T = "int" from ty)
    exact ⟨typeIs_int s i t, fun _ e => nomatch e⟩
  | ref p =>
    cases r
    rcases ty with ⟨rfl, xs, hq⟩ | ⟨rfl, o, hk, hc, hd⟩ | ⟨rfl, hk⟩ | ⟨rfl, S, n, hk⟩
    · obtain ⟨its, _, pl, _⟩ := I.list hq
      refine ⟨pl.isList.typeIs, fun a e => ?_⟩
      cases e
      obtain ⟨o, n, e, c, hd, _⟩ := pl
      exact ⟨o, e, hd⟩
    · refine ⟨⟨o, I.kIn p o hk, hc⟩, fun a e => ?_⟩
      cases e
      exact ⟨o, I.kIn _ o hk, hd⟩
    · have z : ∃ o, s.heap.get? p = some o ∧ o.ExactDict := by
        rcases hk with ⟨kvs, hk⟩ | ⟨kvs, hk⟩
        · obtain ⟨_, _, _, _, o, _, _, e, ex, _⟩ := I.hok p _ hk
          exact ⟨o, e, ex⟩
        · obtain ⟨_, _, _, _, o, _, _, e, ex, _⟩ := I.hok p _ hk
          exact ⟨o, e, ex⟩
      obtain ⟨o, e, ex⟩ := z
      refine ⟨⟨o, e, ex.1⟩, fun a e2 => ?_⟩
      cases e2
      exact ⟨o, e, ex.2.1⟩
    · obtain ⟨o, _, _, _, e, ex, _⟩ := I.hok p _ hk
      refine ⟨⟨o, e, ex.1⟩, fun a e2 => ?_⟩
      cases e2
      exact ⟨o, e, ex.2.1⟩
  | _ => exact False.elim ty
def tBM0 (K : PySem.W.Frag) (T : String) (r : V → List V → Hp → VK → Prop) (to : TE) : TE := fun σ H Q => to σ H fun x H1 => tyV K T x H1 ∧ r x [] H1 Q
def tBM (K : PySem.W.Frag) (T : String) (r : V → List V → Hp → VK → Prop) (to : TE) (t : TA) : TE := fun σ H Q => to σ H fun x H1 => tyV K T x H1 ∧ t σ H1 fun xs H2 => r x xs H2 Q
variable {o e : Expr} {es : List Expr} {to : TE} {t : TA} {name : Str} {apos cpos : Pos} {T id : String} {r : V → List V → Hp → VK → Prop}
theorem pe_bm (pa : PlainAttrs T) (slot : Slot T name id) (hty : typeOf (.builtin id) = pure (.type "method_descriptor")) (hm : MtR X id r) (ho : PE X o to) (ha : PA X (e :: es) t)
    (hbase : attributeBase o name X.env (eval o X.env) = eval o X.env := by rfl)
    (hfew : ((backTo cpos (starEach (e :: es) X.env)).all (fun x => !x.1) && (backToKw cpos (keywordEach [] X.env)).all (fun x => x.1.isSome)
      && decide ((e :: es).length + ([] : List Keyword).length + (if ([] : List Keyword).isEmpty then 0 else 1) < 30)) = true := by rfl)
    (hline : (apos.endLine == cpos.line) = true := by rfl) (hs : starEach (e :: es) X.env = (false, eval e X.env) :: starEach es X.env := by rfl) (hplain : (backTo cpos (starEach es X.env)).any (·.1) = false := by rfl) :
    PE X (.Call (.Attribute o name apos) (e :: es) [] cpos) (tBM X.K T r to t) := by
  intro pins s σ H Q I h
  refine wpAny_Call_method_late hbase hfew hline rfl (thn (ho pins s σ H _ I h) fun v s1 ⟨x, H1, I1, r1, ty, q1⟩ => ?_)
  obtain ⟨h1, h2⟩ := tyV_is I1 r1 ty
  refine ⟨T, id, pa, slot, hty, h1, h2, ?_⟩
  have hA := ha cpos pins s1 σ H1 _ I1 q1
  rw [hs] at hA ⊢
  refine Calls.callWith_builtin (by show (false || (backTo cpos (starEach es X.env)).any (·.1)) = false; rw [hplain] <;> rfl) (Calls.evalArgs_plain ?_)
  exact thn hA fun us s2 ⟨vs, H2, I2, r2, q2⟩ => hm pins s2 σ H2 x vs v us Q I2 r1 r2 q2
/- xs.append(e), list.index on a module's tuple .. are MtR facts of 06m -/
end
end L2

namespace L2
open PySem PySem.Spec PyProof.Rows

def MtM (X : Cx) (id : String) (r : V → List V → Hp → VK → Prop) : Prop :=
  ∀ (pins : List (Addr × Obj)) (s : Shared) (σ : St) (H : Hp) (x : V) (xs : List V) (v : Value) (us : List Value) (Q : VK), Inv X pins σ H s → RelV x v → Vals xs us → r x xs H Q →
    wpAny (model X.prog X.w) X.A (call (.builtin id) (v :: us)) (EP X pins σ Q) X.xe s

/-! ### lists of values -/
theorem Vals.one : ∀ {x : V} {us : List Value}, Vals [x] us → ∃ u, us = [u] ∧ RelV x u
  | _, _, .cons r .nil => ⟨_, rfl, r⟩

section
variable {X : Cx} {pins : List (Addr × Obj)} {σ : St} {H : Hp} {s : Shared} {l b : Addr} {xs ys zs : List V}

/-! ### the two steps: a tracked list is rewritten, a new list is laid -/
theorem Inv.lset {its its' : List Value} {n : Nat} {f : Array Value → Array Value} {t' : Nat} (I : Inv X pins σ H s) (hH : H l = some (.lst xs))
    (e : s.heap.get? l = some { cls := .type "list", data := .seq its.toArray n }) (hf : f its.toArray = its'.toArray) (hv : Vals ys its') (hz : ys.length ≤ sizeLine) :
    Inv X pins σ (upd H l (.lst ys)) { s with heap := s.heap.update l (Obj.mapSeq f), toks := t' } := by
  have q := PySem.IsL.update e f
  rw [hf] at q
  refine I.write (x := l) (e := l) (by rw [hH]; exact trivial) (.inl rfl) (fun b' u hb hu => (Heap.get?_update_other s.heap (Obj.mapSeq f) (Ne.symm hb)).trans hu) ⟨_, q⟩ ?_
  exact ⟨hz, its', _, hv, q⟩
theorem Inv.lnew {its : List Value} {t' : Nat} (I : Inv X pins σ H s) (hv : Vals ys its) (hz : ys.length ≤ sizeLine) :
    Inv X pins σ (upd H s.heap.objs.size (.lst ys)) { s with heap := s.heap.push { cls := .type "list", data := .seq its.toArray }, toks := t' } :=
  I.laid (fun _ _ q => Heap.get?_push_of_some _ q) (Nat.le_refl _) ⟨hz, its, 0, hv, Heap.get?_push_size _ rfl⟩
theorem Inv.fresh (I : Inv X pins σ H s) : H s.heap.objs.size = none := I.hok.fresh (Nat.le_refl _)
theorem Inv.lstM (I : Inv X pins σ H s) (hH : H l = some (.lst xs)) : xs.length ≤ sizeLine ∧ ∃ (its : List Value) (n : Nat), Vals xs its ∧ xs.length = its.length ∧ s.heap.get? l = some { cls := .type "list", data := .seq its.toArray n } := by
  obtain ⟨z, its, n, r, e⟩ := I.hok l _ hH
  exact ⟨z, its, n, r, r.length, e⟩

end

section
variable {X : Cx}

/-! ### methods -/
def rAppend : V → List V → Hp → VK → Prop := fun x vs H Q => ∃ l xs y, x = .ref l ∧ vs = [y] ∧ H l = some (.lst xs) ∧ xs.length < sizeLine ∧ Q .non (upd H l (.lst (xs ++ [y])))
theorem mt_append : MtM X "list.append" rAppend := by
  intro pins s σ H x vs v us Q I rx rv h
  obtain ⟨l, xs, y, rfl, rfl, hH, hz, q⟩ := h
  cases rx
  obtain ⟨u, rfl, ru⟩ := rv.one
  obtain ⟨z, its, n, r, hl, e⟩ := I.lstM hH
  refine call_meets F.slot_list_append ⟨_, e, rfl⟩ F.entry_list_append (F.args_list_append_2 _ _) (PySem.list_append l its.toArray n u (by rw [List.size_toArray]; omega)) ⟨e, ?_⟩
  refine ⟨.non, _, I.lset (its' := its ++ [u]) hH e (by simp) (r.append (.cons ru .nil)) ?_, rfl, q⟩
  rw [List.length_append, List.length_singleton]
  omega

def rExtend : V → List V → Hp → VK → Prop := fun x vs H Q => ∃ l b xs zs, x = .ref l ∧ vs = [.ref b] ∧ H l = some (.lst xs) ∧ H b = some (.lst zs) ∧ xs.length + zs.length ≤ sizeLine ∧ Q .non (upd H l (.lst (xs ++ zs)))

def rPop : V → List V → Hp → VK → Prop := fun x vs H Q => ∃ l xs y, x = .ref l ∧ vs = [] ∧ H l = some (.lst xs) ∧ xs[xs.length - 1]? = some y ∧ Q y (upd H l (.lst xs.dropLast))

def rPopAt : V → List V → Hp → VK → Prop := fun x vs H Q => ∃ l xs i k y, x = .ref l ∧ vs = [.int i] ∧ H l = some (.lst xs) ∧ -(2 ^ 63) ≤ i ∧ i < 2 ^ 63 ∧ seqIndex? i xs.length = some k ∧ xs[k]? = some y ∧ Q y (upd H l (.lst (xs.eraseIdx k)))

def rReverse : V → List V → Hp → VK → Prop := fun x vs H Q => ∃ l xs, x = .ref l ∧ vs = [] ∧ H l = some (.lst xs) ∧ Q .non (upd H l (.lst xs.reverse))

def rClear : V → List V → Hp → VK → Prop := fun x vs H Q => ∃ l xs, x = .ref l ∧ vs = [] ∧ H l = some (.lst xs) ∧ Q .non (upd H l (.lst []))

/-! ### list + list, list += list, list * int -/
def rCat : R2 := fun x y H Q => ∃ l b xs zs, x = .ref l ∧ y = .ref b ∧ H l = some (.lst xs) ∧ H b = some (.lst zs) ∧ xs.length + zs.length ≤ sizeLine ∧ ∀ p, H p = none → Q (.ref p) (upd H p (.lst (xs ++ zs)))
theorem op_cat : OpR X (binaryOp .Add) rCat := by
  intro pins s σ H x y v u Q I rx ry h
  obtain ⟨l, b, xs, zs, rfl, rfl, hH, hB, hz, q⟩ := h
  cases rx
  cases ry
  obtain ⟨z, its, n, r, hl, e⟩ := I.lstM hH
  obtain ⟨z2, its2, n2, r2, hl2, e2⟩ := I.lstM hB
  refine PySem.P.add_list e e2 ?_ (by rw [List.size_toArray, List.size_toArray]; omega)
  have ea : its.toArray ++ its2.toArray = (its ++ its2).toArray := by simp
  rw [ea]
  exact ⟨.ref _, _, I.lnew (t' := s.toks) (r.append r2) (by rw [List.length_append]; omega), rfl, q _ I.fresh⟩
/-- a list times an int (a negative one is nothing) -/
def rRep : R2 := fun x y H Q => ∃ l k xs, x = .ref l ∧ y = .int k ∧ H l = some (.lst xs) ∧ -(2 ^ 63) ≤ k ∧ k < 2 ^ 63 ∧ xs.length * k.toNat ≤ sizeLine ∧
  ∀ p, H p = none → Q (.ref p) (upd H p (.lst (List.replicate k.toNat xs).flatten))

/-! ### del xs[i] -/
end

/-! ### xs[a:b] = ys -/
section
variable {prog : Program} {w : World} {A : Around} {E : Value → Shared → Prop} {s : Shared}
set_option maxRecDepth 100000 in
end

section
variable {X : Cx}
end
end L2

namespace L2
open PySem PySem.Spec PyProof.Rows

theorem Vals.ints : ∀ {ns : List Int} {us : List Value}, Vals (ns.map V.int) us → IntsAre us ns
  | [], us, h => by
    rw [List.map_nil] at h
    cases h
    exact IntsAre.nil
  | n :: ns, us, h => by
    rw [List.map_cons] at h
    cases h with
    | cons r t =>
      obtain ⟨k, rfl⟩ := r
      exact IntsAre.cons n k (Vals.ints t)
theorem Vals.ref1 {a : Addr} {us : List Value} (r : Vals [V.ref a] us) : us = [Value.ref a] := by
  cases r with
  | cons r t =>
    cases t
    cases r
    rfl

/-! ### the library's walks over a list of ints, kept objects alone -/
section
variable {prog : Program} {w : World} {A : Around} {E : Value → Shared → Prop} {s : Shared} {l : Addr} {its : List Value} {ns : List Int} {Q : Value → Shared → Prop}
theorem sum_raw (hh : A.handled = none) (hl : s.heap.IsList l its.toArray) (hi : IntsAre its ns)
    (h : ∀ h' tk t', (∀ b o, s.heap.get? b = some o → h'.get? b = some o) → Q (.int ns.sum t') { s with heap := h', toks := tk }) : wpAny (model prog w) A (call (.builtin "sum") [.ref l]) Q E s := by
  obtain ⟨xs, e⟩ := hi.allInts.items
  have hn : numsOf (intItems xs).toList = ns := by rw [← e]; exact hi.numsOf
  rw [nums_intItems] at hn
  rw [e] at hl
  refine PySem.sum_intListG hh hl fun h' tk t' hk => ?_
  have := h h' tk t' hk
  rw [preSum_eq, List.take_of_length_le (by simp), hn]; exact this
end

/-! ### the calls, by values (CallR of 03t; MtR of 06l) -/
section
variable {X : Cx}
/-- sum(xs) of a list of ints -/
def rSum (K : PySem.W.Frag) : List V → Hp → VK → Prop := fun vs H Q => ∃ (a : Addr) (ns : List Int), vs = [V.ref a] ∧ SqL K H a (ns.map V.int) ∧ Q (.int ns.sum) H
/-- max(xs), min(xs) of a list of ints -/
def rMax (K : PySem.W.Frag) : List V → Hp → VK → Prop := fun vs H Q => ∃ (a : Addr) (ns : List Int), vs = [V.ref a] ∧ SqL K H a (ns.map V.int) ∧ 0 < ns.length ∧ ∀ m, m ∈ ns → (∀ y, y ∈ ns → y ≤ m) → Q (.int m) H
def rMin (K : PySem.W.Frag) : List V → Hp → VK → Prop := fun vs H Q => ∃ (a : Addr) (ns : List Int), vs = [V.ref a] ∧ SqL K H a (ns.map V.int) ∧ 0 < ns.length ∧ ∀ m, m ∈ ns → (∀ y, y ∈ ns → m ≤ y) → Q (.int m) H
theorem cr_sum (hc : X.calm = true) : CallR X (.builtin "sum") (rSum X.K) := by
  intro pins s σ H vs us Q I r h
  obtain ⟨a, ns, rfl, hs, q⟩ := h
  obtain ⟨its, rv, hl, _⟩ := I.list hs
  rw [Vals.ref1 r]
  exact sum_raw (I.ok.hd hc) hl.isList rv.ints fun h' tk t' hk => ⟨.int _, H, I.kept hk, ⟨_, rfl⟩, q⟩

/-! sorted, sort (fewer than 64 items: the library's own bound) -/
def rSorted (K : PySem.W.Frag) : List V → Hp → VK → Prop := fun vs H Q => ∃ (a : Addr) (ns : List Int), vs = [V.ref a] ∧ SqL K H a (ns.map V.int) ∧ ns.length < 64 ∧
  ∀ (ns' : List Int) (p : Addr), ns'.Perm ns → ns'.Pairwise (· ≤ ·) → H p = none → Q (.ref p) (upd H p (.lst (ns'.map V.int)))
def rSortedS (K : PySem.W.Frag) : List V → Hp → VK → Prop := fun vs H Q => ∃ (a : Addr) (xs : List Str), vs = [V.ref a] ∧ SqL K H a (xs.map V.str) ∧ xs.length < 64 ∧
  ∀ (ys : List Str) (p : Addr), ys.Perm xs → sortedS ys = true → H p = none → Q (.ref p) (upd H p (.lst (ys.map V.str)))
/-- xs.sort(), ints -/
def rSort : V → List V → Hp → VK → Prop := fun x xs H Q => ∃ (a : Addr) (ns : List Int), x = V.ref a ∧ xs = [] ∧ H a = some (.lst (ns.map V.int)) ∧ ns.length < 64 ∧
  ∀ ns' : List Int, ns'.Perm ns → ns'.Pairwise (· ≤ ·) → Q .non (upd H a (.lst (ns'.map V.int)))
end

/-! ### list.index, flat items -/
section
variable {X : Cx}
def rIndex (K : PySem.W.Frag) : V → List V → Hp → VK → Prop := fun x xs H Q => ∃ (a : Addr) (ys : List V) (y : V) (j : Nat) (z : V), x = V.ref a ∧ xs = [y] ∧ SqL K H a ys ∧ flatV y = true ∧ ys.all flatV = true ∧ ys[j]? = some z ∧ eqV z y = true ∧
  (∀ (m : Nat) (z' : V), m < j → ys[m]? = some z' → eqV z' y = false) ∧ Q (.int (j : Nat)) H
end

/-! ### type(x) of an own instance; is, is not of a module's class -/
section
variable {X : Cx}
end

/-! ### any(xs), all(xs) of a list of bools -/
section
variable {X : Cx}
def rAny (K : PySem.W.Frag) : List V → Hp → VK → Prop := fun vs H Q => ∃ (a : Addr) (bs : List Bool), vs = [V.ref a] ∧ SqL K H a (bs.map V.bl) ∧ Q (.bl (bs.any id)) H
def rAll (K : PySem.W.Frag) : List V → Hp → VK → Prop := fun vs H Q => ∃ (a : Addr) (bs : List Bool), vs = [V.ref a] ∧ SqL K H a (bs.map V.bl) ∧ Q (.bl (bs.all id)) H
end

/-! ### == and != of data at any depth: none, bools, ints, texts, lists, tuples -/
mutual
inductive Dp (K : PySem.W.Frag) (H : Hp) : V → PyData → Prop
  | non : Dp K H .non .none
  | bl (b : Bool) : Dp K H (.bl b) (.bool b)
  | int (i : Int) : Dp K H (.int i) (.int i)
  | str (x : Str) : Dp K H (.str x) (.str x)
  | lst {a : Addr} {xs : List V} {ds : List PyData} : SqL K H a xs → DpAll K H xs ds → Dp K H (.ref a) (.list ds)
  | tup {a : Addr} {xs : List V} {ds : List PyData} : SqT K H a xs → DpAll K H xs ds → Dp K H (.ref a) (.tuple ds)
inductive DpAll (K : PySem.W.Frag) (H : Hp) : List V → List PyData → Prop
  | nil : DpAll K H [] []
  | cons {v : V} {vs : List V} {d : PyData} {ds : List PyData} : Dp K H v d → DpAll K H vs ds → DpAll K H (v :: vs) (d :: ds)
end
section
variable {X : Cx} {pins : List (Addr × Obj)} {σ : St} {H : Hp} {s : Shared}
mutual
theorem Dp.reads (I : Inv X pins σ H s) : ∀ (d : PyData) (v : V) (u : Value), Dp X.K H v d → RelV v u → ∃ as, Reads s.heap u d as
  | .none, _, _, h, r => by
    cases h
    cases r
    exact ⟨_, Reads.none⟩
  | .bool b, _, _, h, r => by
    cases h
    cases r
    exact ⟨_, Reads.bool b⟩
  | .int i, _, _, h, r => by
    cases h
    obtain ⟨t, rfl⟩ := r
    exact ⟨_, Reads.int i t⟩
  | .str x, _, _, h, r => by
    cases h
    obtain ⟨t, rfl⟩ := r
    exact ⟨_, Reads.str x t⟩
  | .list ds, _, _, h, r => by
    cases h with
    | lst hs ha =>
      cases r
      obtain ⟨its, rv, ⟨o, n, ho, hc, _, hd⟩, _⟩ := I.list hs
      obtain ⟨as, hr⟩ := Dp.readsAll I ds _ its ha rv
      exact ⟨_, Reads.list ho hc hd hr⟩
  | .tuple ds, _, _, h, r => by
    cases h with
    | tup hs ha =>
      cases r
      obtain ⟨its, rv, ⟨o, ho, hc, n, hd⟩, _⟩ := I.tuple hs
      obtain ⟨as, hr⟩ := Dp.readsAll I ds _ its ha rv
      exact ⟨_, Reads.tuple ho hc hd hr⟩
  | .dict _, _, _, h, _ => by cases h
theorem Dp.readsAll (I : Inv X pins σ H s) : ∀ (ds : List PyData) (vs : List V) (us : List Value), DpAll X.K H vs ds → Vals vs us → ∃ as, ReadsAll s.heap us ds as
  | [], _, _, h, r => by
    cases h
    cases r
    exact ⟨_, ReadsAll.nil⟩
  | d :: ds, _, _, h, r => by
    cases h with
    | cons h1 h2 =>
      cases r with
      | cons r1 r2 =>
        obtain ⟨as, q1⟩ := Dp.reads I d _ _ h1 r1
        obtain ⟨bs, q2⟩ := Dp.readsAll I ds _ _ h2 r2
        exact ⟨_, ReadsAll.cons q1 q2⟩
end
end
section
variable {X : Cx}
def rEqD (K : PySem.W.Frag) : R2 := fun x y H Q => ∃ d e, Dp K H x d ∧ Dp K H y e ∧ SeqAt.shaped d = true ∧ SeqAt.shaped e = true ∧ Q (.bl (PyData.eqv d e)) H
def rNeD (K : PySem.W.Frag) : R2 := fun x y H Q => ∃ d e, Dp K H x d ∧ Dp K H y e ∧ SeqAt.shaped d = true ∧ SeqAt.shaped e = true ∧ Q (.bl (!PyData.eqv d e)) H
theorem op_eqD (hu : X.A.units + 64 < cLine) : OpR X (compareOp .Eq) (rEqD X.K) := by
  intro pins s σ H x y v u Q I rx ry h
  obtain ⟨d, e, hd, he, sd, se, q⟩ := h
  obtain ⟨as, r1⟩ := Dp.reads I d x v hd rx
  obtain ⟨bs, r2⟩ := Dp.reads I e y u he ry
  exact SeqAt.compareEq_shaped r1 r2 sd se hu ⟨.bl _, H, I, rfl, q⟩
theorem op_neD (hu : X.A.units + 64 < cLine) : OpR X (compareOp .NotEq) (rNeD X.K) := by
  intro pins s σ H x y v u Q I rx ry h
  obtain ⟨d, e, hd, he, sd, se, q⟩ := h
  obtain ⟨as, r1⟩ := Dp.reads I d x v hd rx
  obtain ⟨bs, r2⟩ := Dp.reads I e y u he ry
  exact SeqAt.compareNe_shaped r1 r2 sd se hu ⟨.bl _, H, I, rfl, q⟩
end
end L2

namespace L2
open PySem PySem.Spec PyProof.Rows
abbrev CellAt (h : Heap) (c : Addr) (v : Option Value) : Prop := h.IsCell c v
def relS (scope sc : Scope) : Scope :=
  { scope with names := scope.names.map fun (n, k) => if (k == .free && sc.kind == .function && sc.names.lookup n == some .cell) then (n, .cell) else (n, k) }

def cloFrom (cells : List (Str × Addr)) : List (Str × NameKind) → List (Str × Addr) → List (Str × Addr)
  | [], acc => acc
  | (n, k) :: r, acc => if k == .free then cloFrom cells r ((n, (cells.lookup n).getD 0) :: acc) else cloFrom cells r acc

theorem closure_loop (env : Env) (f : Str × NameKind → List (Str × Addr) → Sem (ForInStep (List (Str × Addr))))
    (hf : ∀ n k c, f (n, k) c = if k == .free then (do let a ← cellOf env n; pure (.yield ((n, a) :: c))) else pure (.yield c)) :
    ∀ (names : List (Str × NameKind)) (acc : List (Str × Addr)), (∀ y ∈ names, y.2 = .free → ∃ c, env.cells.lookup y.1 = some c) → forIn names acc f = pure (cloFrom env.cells names acc)
  | [], acc, _ => by rw [List.forIn_nil]; rfl
  | (n, k) :: r, acc, h => by
    rw [List.forIn_cons, hf]
    have ih := fun acc => closure_loop env f hf r acc fun y hy => h y (List.mem_cons_of_mem _ hy)
    unfold cloFrom
    by_cases hk : (k == NameKind.free) = true
    · rw [if_pos hk, if_pos hk]
      obtain ⟨c, hc⟩ := h (n, k) List.mem_cons_self (by simpa using hk)
      have e : cellOf env n = pure c := by unfold cellOf; rw [hc]
      rw [e]
      have e2 : (env.cells.lookup n).getD 0 = c := by rw [hc]; rfl
      rw [e2]
      exact ih _
    · rw [if_neg hk, if_neg hk]
      exact ih _
theorem closure_ok {scope : Scope} {env : Env} (h : ∀ y ∈ scope.names, y.2 = .free → ∃ c, env.cells.lookup y.1 = some c) : closureFor scope env = pure (cloFrom env.cells scope.names []) := by
  simp only [closureFor]
  rw [closure_loop env _ (fun n k c => rfl) scope.names [] h]
  rfl

theorem mem_lookup {α : Type} : ∀ {l : List (Str × α)} {n : Str} {c : α}, (n, c) ∈ l → ∃ c', l.lookup n = some c'
  | (k, v) :: r, n, c, h => by
    rw [List.lookup_cons]
    cases hb : n == k with
    | true => exact ⟨_, rfl⟩
    | false =>
      rcases List.mem_cons.mp h with e | h
      · cases e; simp at hb
      · exact mem_lookup h

theorem cloFrom_mem {cells : List (Str × Addr)} : ∀ {names : List (Str × NameKind)} {acc : List (Str × Addr)} {n : Str} {c : Addr}, (n, c) ∈ cloFrom cells names acc → (n, c) ∈ acc ∨ ((n, .free) ∈ names ∧ c = (cells.lookup n).getD 0)
  | [], _, _, _, h => .inl h
  | (m, k) :: r, acc, n, c, h => by
    unfold cloFrom at h
    split at h
    · rename_i hk
      have hk : k = .free := by simpa using hk
      rcases cloFrom_mem h with h | ⟨h1, h2⟩
      · rcases List.mem_cons.mp h with e | h
        · cases e; exact .inr ⟨hk ▸ List.mem_cons_self, rfl⟩
        · exact .inl h
      · exact .inr ⟨List.mem_cons_of_mem _ h1, h2⟩
    · rcases cloFrom_mem h with h | ⟨h1, h2⟩
      · exact .inl h
      · exact .inr ⟨List.mem_cons_of_mem _ h1, h2⟩
theorem cloFrom_acc {cells : List (Str × Addr)} : ∀ {names : List (Str × NameKind)} {acc : List (Str × Addr)} {p : Str × Addr}, p ∈ acc → p ∈ cloFrom cells names acc
  | [], _, _, h => h
  | (m, k) :: r, acc, p, h => by
    unfold cloFrom
    split
    · exact cloFrom_acc (List.mem_cons_of_mem _ h)
    · exact cloFrom_acc h
theorem cloFrom_has {cells : List (Str × Addr)} : ∀ {names : List (Str × NameKind)} {acc : List (Str × Addr)} {n : Str}, (n, .free) ∈ names → (n, (cells.lookup n).getD 0) ∈ cloFrom cells names acc
  | (m, k) :: r, acc, n, h => by
    unfold cloFrom
    rcases List.mem_cons.mp h with e | h
    · cases e
      exact cloFrom_acc List.mem_cons_self
    · split
      · exact cloFrom_has h
      · exact cloFrom_has h

theorem cells_mem : ∀ {names : List (Str × NameKind)} {h : Heap} {acc : List (Str × Addr)} {x : Str} {c : Addr}, (x, c) ∈ cellsFrom h.objs.size names acc →
    (x, c) ∈ acc ∨ ((x, .cell) ∈ names ∧ h.objs.size ≤ c ∧ CellAt (pushCells h names) c none)
  | [], _, _, _, _, h => .inl h
  | (n, k) :: r, h, acc, x, c, hm => by
    unfold cellsFrom at hm
    unfold pushCells
    split at hm
    · rename_i hk
      rw [if_pos hk]
      have hk : k = .cell := by simpa using hk
      rw [← Heap.size_push h { cls := .type "cell", data := .cell none }] at hm
      rcases cells_mem hm with hm | ⟨h1, h2, h3⟩
      · rcases List.mem_cons.mp hm with e | hm
        · cases e
          exact .inr ⟨hk ▸ List.mem_cons_self, Nat.le_refl _, _, pushCells_keeps r _ _ _ (Heap.get?_push_size _ rfl), rfl⟩
        · exact .inl hm
      · rw [Heap.size_push] at h2
        exact .inr ⟨List.mem_cons_of_mem _ h1, Nat.le_of_succ_le h2, h3⟩
    · rename_i hk
      rw [if_neg hk]
      rcases cells_mem hm with hm | ⟨h1, h2, h3⟩
      · exact .inl hm
      · exact .inr ⟨List.mem_cons_of_mem _ h1, h2, h3⟩
theorem cells_acc : ∀ {names : List (Str × NameKind)} {n : Nat} {acc : List (Str × Addr)} {p : Str × Addr}, p ∈ acc → p ∈ cellsFrom n names acc
  | [], _, _, _, h => h
  | (m, k) :: r, n, acc, p, h => by
    unfold cellsFrom
    split
    · exact cells_acc (List.mem_cons_of_mem _ h)
    · exact cells_acc h
theorem cells_has : ∀ {names : List (Str × NameKind)} {n : Nat} {acc : List (Str × Addr)} {x : Str}, (x, .cell) ∈ names → ∃ c, (x, c) ∈ cellsFrom n names acc
  | (m, k) :: r, n, acc, x, h => by
    unfold cellsFrom
    rcases List.mem_cons.mp h with e | h
    · cases e
      exact ⟨n, cells_acc List.mem_cons_self⟩
    · split
      · exact cells_has h
      · exact cells_has h
theorem cells_inj : ∀ {names : List (Str × NameKind)} {h : Heap} {acc : List (Str × Addr)} {x y : Str} {c : Addr}, (∀ p ∈ acc, p.2 < h.objs.size) → (∀ x y c, (x, c) ∈ acc → (y, c) ∈ acc → x = y) →
    (x, c) ∈ cellsFrom h.objs.size names acc → (y, c) ∈ cellsFrom h.objs.size names acc → x = y
  | [], _, _, _, _, _, _, hi, h1, h2 => hi _ _ _ h1 h2
  | (n, k) :: r, h, acc, x, y, c, hl, hi, h1, h2 => by
    unfold cellsFrom at h1 h2
    split at h1
    · rename_i hk
      rw [if_pos hk] at h2
      rw [← Heap.size_push h { cls := .type "cell", data := .cell none }] at h1 h2
      refine cells_inj (h := h.push _) (fun p hp => ?_) (fun x y c a b => ?_) h1 h2
      · rw [Heap.size_push]
        rcases List.mem_cons.mp hp with rfl | hp
        · exact Nat.lt_succ_self _
        · exact Nat.lt_succ_of_lt (hl p hp)
      · rcases List.mem_cons.mp a with e | a <;> rcases List.mem_cons.mp b with e' | b
        · cases e; cases e'; rfl
        · cases e; exact absurd (hl _ b) (Nat.lt_irrefl _)
        · cases e'; exact absurd (hl _ a) (Nat.lt_irrefl _)
        · exact hi _ _ _ a b
    · rename_i hk
      rw [if_neg hk] at h2
      exact cells_inj hl hi h1 h2

theorem newEnv_comp {M : Model} {A : Around} {E : Value → Shared → Prop} {s : Shared} {scope : Scope} {globals : Addr} {closure : List (Str × Addr)} {qual : Str} {func : Option Addr} {code : Value} {around : Env} {builtins : Addr} {Q : Env → Shared → Prop}
    (h : Q (newEnv scope s.heap.objs.size globals (cellsFrom (s.heap.objs.size + 1) scope.names closure) qual func code (some around) builtins)
      { s with heap := pushCells (s.heap.push { cls := .type "dict", data := .dict #[] }) scope.names }) :
    wpAny M A (newFunctionEnv scope globals closure [] qual func code (some around) builtins) Q E s := by
  simp only [newFunctionEnv, Option.isSome_some, if_true]
  refine wpAny_bind (wpAny_alloc ?_)
  refine wpAny_bind (wpAny_layCells _ (fun n k c => rfl) scope.names closure _ _ ?_)
  rw [show ({ s with heap := s.heap.push { cls := .type "dict", data := .dict #[] } } : Shared).heap.objs.size = s.heap.objs.size + 1 from Heap.size_push ..]
  rw [List.forIn_nil]
  exact wpAny_bind (wpAny_pure (wpAny_pure h))

/-- every name of the written scope, in the scope that runs -/
theorem lookup_relS {sc : Scope} : ∀ {names : List (Str × NameKind)} {x : Str} {k : NameKind},
    (names.map fun (n, k) => if (k == NameKind.free && sc.kind == .function && sc.names.lookup n == some .cell) then (n, NameKind.cell) else (n, k)).lookup x = some k →
    ∃ k', names.lookup x = some k' ∧ (k = k' ∨ (k' = .free ∧ k = .cell))
  | [], _, _, h => by simp at h
  | (n, k₀) :: r, x, k, h => by
    have ih := @lookup_relS sc r x k
    have h' : List.lookup x ((if (k₀ == NameKind.free && sc.kind == .function && sc.names.lookup n == some .cell) = true then (n, NameKind.cell) else (n, k₀)) :: (r.map _)) = some k := h
    cases hx : x == n with
    | true =>
      simp only [List.lookup_cons, hx]
      by_cases hc : (k₀ == NameKind.free && sc.kind == .function && sc.names.lookup n == some .cell) = true
      · rw [if_pos hc] at h'
        simp only [List.lookup_cons, hx] at h'
        cases h'
        simp only [Bool.and_eq_true, beq_iff_eq] at hc
        exact ⟨k₀, rfl, .inr ⟨hc.1.1, rfl⟩⟩
      · rw [if_neg hc] at h'
        simp only [List.lookup_cons, hx] at h'
        cases h'
        exact ⟨_, rfl, .inl rfl⟩
    | false =>
      simp only [List.lookup_cons, hx]
      by_cases hc : (k₀ == NameKind.free && sc.kind == .function && sc.names.lookup n == some .cell) = true
      · rw [if_pos hc] at h'
        simp only [List.lookup_cons, hx] at h'
        exact ih h'
      · rw [if_neg hc] at h'
        simp only [List.lookup_cons, hx] at h'
        exact ih h'



/-- the names of a comprehension's block: its own (with their places in N), or captured -/
structure BlkOk (N : List Str) (sc scope : Scope) (own : List (Str × Nat)) : Prop where
  kind : scope.kind = .function
  uniq : ∀ y ∈ scope.names, scope.names.lookup y.1 = some y.2
  ix : ∀ p ∈ own, N[p.2]? = some p.1
  free : ∀ y ∈ scope.names, y.2 = .free → sc.names.lookup y.1 = some .cell ∨ sc.names.lookup y.1 = some .free
  own : ∀ y ∈ scope.names, y.2 = .local ∨ y.2 = .cell → y.1 ∈ own.map (·.1) ∨ y.1 ∉ N
/-- the slots of the block's own names forgotten -/
def wipe (σ : St) : List Nat → St
  | [] => σ
  | v :: vs => (wipe σ vs).set v none
theorem wipe_length (σ : St) : ∀ vs : List Nat, (wipe σ vs).length = σ.length
  | [] => rfl
  | v :: vs => by unfold wipe; rw [List.length_set, wipe_length σ vs]
theorem wipe_some {σ : St} {i : Nat} {x : V} : ∀ {vs : List Nat}, (wipe σ vs)[i]? = some (some x) → σ[i]? = some (some x) ∧ i ∉ vs
  | [], h => ⟨h, by simp⟩
  | v :: vs, h => by
    unfold wipe at h
    by_cases hi : v = i
    · subst hi
      by_cases hv : v < (wipe σ vs).length
      · rw [List.getElem?_set_self hv] at h; cases h
      · rw [List.getElem?_eq_none (by simpa using hv)] at h; cases h
    · rw [List.getElem?_set_ne hi] at h
      obtain ⟨h1, h2⟩ := wipe_some h
      exact ⟨h1, by simp only [List.mem_cons, not_or]; exact ⟨fun e => hi e.symm, h2⟩⟩

/-- the context of a block that starts at s, its iterator's objects at fp -/
abbrev Cx.blk (X : Cx) (s : Shared) (H : Hp) (scope : Scope) (cenv : Env) (fp : List Addr) : Cx := { X with s_0 := s, H_0 := H, env := cenv, outer := X.stack, ex := fp, fn := fun x => scope.names.lookup x == some .cell, pn := [], xe := fun _ _ => False }
section
variable {X : Cx} {pins : List (Addr × Obj)} {σ : St} {H : Hp} {s : Shared}
theorem block_start {scope : Scope} {own : List (Str × Nat)} {fp : List Addr} (I : Inv X pins σ H s) (ok : BlkOk X.N X.env.scope scope own) (hN : X.N.Nodup) (hfp : ∀ b ∈ fp, FpOk X pins H b ∧ b < s.heap.objs.size) :
    Inv (X.blk s H scope (compEnvC scope (cellsFrom (s.heap.objs.size + 1) scope.names (cloFrom X.env.cells scope.names [])) s.heap.objs.size X.env) fp) [] (wipe σ (own.map (·.2))) H { s with heap := pushCells (s.heap.push { cls := .type "dict", data := .dict #[] }) scope.names } := by
  have hfree : ∀ y ∈ scope.names, y.2 = .free → ∃ c, X.env.cells.lookup y.1 = some c := fun y hy e => by
    rcases ok.free y hy e with k | k
    · exact I.ok.has _ (.inl k)
    · exact I.ok.has _ (.inr k)
  generalize hcenv : compEnvC scope (cellsFrom (s.heap.objs.size + 1) scope.names (cloFrom X.env.cells scope.names [])) s.heap.objs.size X.env = cenv
  have kp : ∀ b o, s.heap.get? b = some o → (pushCells (s.heap.push { cls := .type "dict", data := .dict #[] }) scope.names).get? b = some o := fun b o e => pushCells_keeps _ _ _ _ (Heap.get?_push_of_some _ e)
  have hL : cenv.locals = s.heap.objs.size := by rw [← hcenv]; rfl
  have hcl : cenv.cells = cellsFrom (s.heap.objs.size + 1) scope.names (cloFrom X.env.cells scope.names []) := by rw [← hcenv]; rfl
  have hsc : cenv.scope = relS scope X.env.scope := by rw [← hcenv]; rfl
  rw [← Heap.size_push s.heap { cls := .type "dict", data := .dict #[] }] at hcl
  have cm : ∀ {y c}, (y, c) ∈ cloFrom X.env.cells scope.names [] → X.env.cells.lookup y = some c ∧ c < s.heap.objs.size := fun {y c} hm => by
    rcases cloFrom_mem hm with hm | ⟨h1, rfl⟩
    · cases hm
    · obtain ⟨c, hc⟩ := hfree _ h1 rfl
      rw [hc]
      obtain ⟨w, z⟩ := I.cell _ _ hc
      exact ⟨rfl, z.lt⟩
  have mem : ∀ {y c}, cenv.cells.lookup y = some c → (X.env.cells.lookup y = some c ∧ c < s.heap.objs.size) ∨ (s.heap.objs.size + 1 ≤ c ∧ CellAt (pushCells (s.heap.push { cls := .type "dict", data := .dict #[] }) scope.names) c none) := fun {y c} e => by
    rw [hcl] at e
    rcases cells_mem (PySem.mem_of_lookup e) with hm | ⟨_, h2, h3⟩
    · exact .inl (cm hm)
    · rw [Heap.size_push] at h2; exact .inr ⟨h2, h3⟩
  have look : ∀ {y}, scope.names.lookup y = some .free → ∃ c, cenv.cells.lookup y = some c ∧ X.env.cells.lookup y = some c := fun {y} hl => by
    have hy : (y, NameKind.free) ∈ scope.names := PySem.mem_of_lookup hl
    obtain ⟨c', e'⟩ := mem_lookup (cells_acc (names := scope.names) (n := (s.heap.push { cls := .type "dict", data := .dict #[] }).objs.size) (cloFrom_has (cells := X.env.cells) (acc := []) hy))
    rw [← hcl] at e'
    refine ⟨c', e', ?_⟩
    rw [hcl] at e'
    rcases cells_mem (PySem.mem_of_lookup e') with hm | ⟨h1, _, _⟩
    · exact (cm hm).1
    · have := ok.uniq _ h1
      rw [hl] at this; cases this
  have okB : (X.blk s H scope cenv fp).Ok := by
    refine ⟨I.ok.mod, by show cenv.scope.kind = _; rw [hsc]; exact ok.kind, by show cenv.globals = _; rw [← hcenv]; exact I.ok.glob, by show cenv.builtins = _; rw [← hcenv]; exact I.ok.blt, by show s.heap.objs.size ≤ cenv.locals; rw [hL]; exact Nat.le_refl _,
      fun y z c e1 e2 => ?_, fun y hy => ?_, fun y c z e => ?_, I.ok.hd, I.ok.frames, .inl rfl, fun b hb => ⟨?_, fun y c e z => ?_⟩, I.bs, Nat.le_trans I.ok.bsz I.sz, fun b o e hb => ?_, fun b hb z => ?_, I.stack, I.stkFree⟩
    · have e1 : cenv.cells.lookup y = some c := e1
      have e2 : cenv.cells.lookup z = some c := e2
      rw [hcl] at e1 e2
      refine cells_inj (fun p hp => ?_) (fun y z c a b => I.ok.inj y z c (cm a).1 (cm b).1) (PySem.mem_of_lookup e1) (PySem.mem_of_lookup e2)
      rw [Heap.size_push]
      exact Nat.lt_succ_of_lt (cm (y := p.1) (c := p.2) hp).2
    · show ∃ c, cenv.cells.lookup y = some c
      have key : ∀ k, cenv.kindOf y = some k → (k = .cell ∨ k = .free) → ∃ c, cenv.cells.lookup y = some c := fun k hk hk' => by
        unfold Env.kindOf at hk
        rw [hsc] at hk
        obtain ⟨k', e, r⟩ := lookup_relS hk
        have : k' = .cell ∨ k' = .free := by
          rcases r with rfl | ⟨rfl, _⟩
          · exact hk'
          · exact .inr rfl
        rcases this with rfl | rfl
        · obtain ⟨c, hm⟩ := cells_has (n := (s.heap.push { cls := .type "dict", data := .dict #[] }).objs.size) (acc := cloFrom X.env.cells scope.names []) (PySem.mem_of_lookup e)
          obtain ⟨c', e'⟩ := mem_lookup hm
          exact ⟨c', by rw [hcl]; exact e'⟩
        · obtain ⟨c, h1, _⟩ := look e
          exact ⟨c, h1⟩
      rcases hy with hy | hy
      · exact key _ hy (.inl rfl)
      · exact key _ hy (.inr rfl)
    · have z : (scope.names.lookup y == some NameKind.cell) = true := z
      have z : scope.names.lookup y = some .cell := by simpa using z
      have e : cenv.cells.lookup y = some c := e
      rw [hcl] at e
      rcases cells_mem (PySem.mem_of_lookup e) with hm | ⟨_, h2, _⟩
      · rcases cloFrom_mem hm with hm | ⟨h1, _⟩
        · cases hm
        · have q := ok.uniq _ h1
          rw [z] at q; cases q
      · rw [Heap.size_push] at h2
        exact Nat.le_of_succ_le h2
    · show b ≠ cenv.locals
      rw [hL]; exact Nat.ne_of_lt (hfp b hb).2
    · have e : cenv.cells.lookup y = some c := e
      rcases mem e with ⟨h1, _⟩ | ⟨h1, _⟩
      · exact (hfp b hb).1.2.2.2.2.1 y c h1 z
      · have h2 : s.heap.objs.size + 1 ≤ b := by rw [← z]; exact h1
        exact absurd (Nat.lt_of_lt_of_le (hfp b hb).2 (Nat.le_of_succ_le h2)) (Nat.lt_irrefl _)
    · rcases (hfp b hb).1.2.2.2.1 with z | z
      · exact I.ok.noex b o e z
      · exact absurd (Nat.lt_of_lt_of_le (Heap.lt_size e) (Nat.le_trans I.ok.bsz z)) (Nat.lt_irrefl _)
    · rcases List.mem_cons.mp (I.stkSub b z) with z | z
      · exact (hfp b hb).1.2.1 z
      · exact (hfp b hb).1.2.2.1 z
  refine ⟨okB, rfl, I.bare, Un.kept kp, ⟨fun _ => none, ?_, fun i y av e1 e2 e3 => ?_⟩, fun y c e => ?_, ?_, fun y c e => ?_, fun p hp => ?_, I.hok.kept kp, by rw [wipe_length]; exact I.len⟩
  · show Heap.Ns _ cenv.locals _
    rw [hL]
    exact Heap.Ns.keeps (Heap.Ns.new ..) fun b o e => pushCells_keeps _ _ _ _ e
  · obtain ⟨e2, hne⟩ := wipe_some e2
    have hfr : scope.names.lookup y = some .free ∧ (cenv.kindOf y = some .cell ∨ cenv.kindOf y = some .free) := by
      have key : ∀ k, cenv.scope.names.lookup y = some k → k = .local ∨ k = .cell ∨ k = .free → scope.names.lookup y = some .free ∧ (cenv.kindOf y = some .cell ∨ cenv.kindOf y = some .free) := fun k hk hk' => by
        have hk0 := hk
        rw [hsc] at hk
        obtain ⟨k', e, r⟩ := lookup_relS hk
        have no : ¬ (k' = .local ∨ k' = .cell) := fun hh => by
          rcases ok.own _ (PySem.mem_of_lookup e) hh with e' | e'
          · obtain ⟨p, hp, hpy⟩ := List.mem_map.mp e'
            have e3 := ok.ix p hp
            have : p.1 = y := hpy
            rw [this] at e3
            exact hne (List.mem_map.mpr ⟨p, hp, nodup_ix hN e3 e1⟩)
          · exact e' (List.mem_of_getElem? e1)
        rcases r with rfl | ⟨rfl, rfl⟩
        · rcases hk' with rfl | rfl | rfl
          · exact absurd (.inl rfl) no
          · exact absurd (.inr rfl) no
          · exact ⟨e, .inr hk0⟩
        · exact ⟨e, .inl hk0⟩
      have e3 : Vis cenv.scope y := e3
      rcases e3 with e3 | e3 | e3
      · exact key _ e3 (.inl rfl)
      · exact key _ e3 (.inr (.inl rfl))
      · exact key _ e3 (.inr (.inr rfl))
    obtain ⟨m, hn, hl⟩ := I.loc
    have hvis : Vis X.env.scope y := (ok.free _ (PySem.mem_of_lookup hfr.1) rfl).elim (fun k => .inr (.inl k)) (fun k => .inr (.inr k))
    obtain ⟨w, r, q⟩ := hl i y av e1 e2 hvis
    refine ⟨w, r, .inr ⟨hfr.2, ?_⟩⟩
    obtain ⟨c, h1, h2⟩ := look hfr.1
    rcases q with ⟨k, _⟩ | ⟨_, c', e', z⟩
    · have k : X.env.scope.names.lookup y = some .local := k
      rcases ok.free _ (PySem.mem_of_lookup hfr.1) rfl with k' | k' <;> rw [show X.env.scope.names.lookup y = _ from k'] at k <;> cases k
    · rw [h2] at e'; cases e'
      exact ⟨c, h1, z.keeps kp⟩
  · have e : cenv.cells.lookup y = some c := e
    rcases mem e with ⟨h1, _⟩ | ⟨_, z⟩
    · obtain ⟨w, z⟩ := I.cell y c h1
      exact ⟨w, z.keeps kp⟩
    · exact ⟨_, z⟩
  · show H cenv.locals = none
    rw [hL]; exact I.hok.fresh (Nat.le_refl _)
  · have e : cenv.cells.lookup y = some c := e
    rcases mem e with ⟨h1, _⟩ | ⟨h1, _⟩
    · exact I.freeC y c h1
    · exact I.hok.fresh (Nat.le_of_succ_le h1)
  · exact absurd (show p ∈ ([] : List (Addr × Obj)) ++ [] from hp) (by simp)

/-- an item appended to a tracked list -/
theorem app_ok {E : Value → Shared → Prop} {D : Addr} {xs : List V} {y : V} {v : Value} {Q : Value → Shared → Prop} (I : Inv X pins σ H s) (hD : H D = some (.lst xs)) (hz : xs.length < sizeLine) (r : RelV y v)
    (h : ∀ s', Inv X pins σ (upd H D (.lst (xs ++ [y]))) s' → Q .none s') : wpAny (model X.prog X.w) X.A (call (.builtin "list.append") [.ref D, v]) Q E s := by
  obtain ⟨hz', its, n, ri, e⟩ := I.hok D _ hD
  have hl := ri.length
  refine append_at (hsz := by rw [List.size_toArray]; omega) e fun h' sb ho' => ?_
  refine h { s with heap := h' } (I.write (t' := s.toks) (by rw [hD]; trivial) (.inl rfl) (fun b u hb q => (sb.2 b hb).trans q) ⟨_, ho'⟩ ⟨by rw [List.length_append]; exact hz, its ++ [v], n + 1, ri.append (.cons r .nil), ?_⟩)
  rw [ho']
  simp

/-- a clause's tests -/
def PTs (X : Cx) (ifs : List Expr) (t : TT) : Prop :=
  ∀ (pins : List (Addr × Obj)) (s : Shared) (σ : St) (H : Hp) (Q : Bool → Hp → Prop), Inv X pins σ H s → t σ H Q →
    wpAny (model X.prog X.w) X.A (forIn ifs true fun c r => if r = true then do let ok ← isTrue c X.env (eval c X.env); pure (ForInStep.yield ok) else pure (ForInStep.yield r)) (TP X pins σ Q) X.xe s
def tYes : TT := fun _ H Q => Q true H
theorem pts_nil : PTs X [] tYes := fun _ _ _ H _ I h => wpAny_tests_nil ⟨H, I, h⟩
theorem pts_one {c : Expr} {t : TT} (h : PT X c t) : PTs X [c] t := fun pins s σ H Q I hw => wpAny_tests_one (h pins s σ H Q I hw)
end

theorem thnF {α : Type} {t : Sem α} {Q Q' : α → Shared → Prop} {M : Model} {A : Around} {E : Value → Shared → Prop} {s : Shared} (h : wpAny M A t Q (fun _ _ => False) s) (hQ : ∀ a s, Q a s → Q' a s) : wpAny M A t Q' E s := wpAny_mono h hQ fun _ _ z => False.elim z

/-- the loop of a list comprehension's block, the target of any form (codeAny_compLoop_tests asks a target that no tuple goes to; statement and proof follow it, PyProof/CompMap.lean:41-61, with the step letOwnedTupleGo kept) -/
theorem compLoop_any {prog : Program} {w : World} {A : Around} {R : Result → Shared → Prop} {s : Shared} {elt target iter : Expr} {ifs : List Expr} {scope : Scope} {pos : Pos} {it acc : Value} {env : Env} (I : Nat → Shared → Prop)
    (turn : ∀ n s, I n s → wpAny (model prog w) A (pyNext it) (fun r s₁ => match r with
      | none => R (.ok .next) s₁
      | some v => wpAny (model prog w) A (letOwnedTupleGo target it v) (fun _ s₁' => wpAny (model prog w) A (assign target env v) (fun _ s₂ =>
          wpAny (model prog w) A (forIn ifs true fun c r => if r = true then do let ok ← isTrue c env (eval c env); pure (ForInStep.yield ok) else pure (ForInStep.yield r)) (fun ok s₃ =>
            if ok = true then wpAny (model prog w) A (eval elt env) (fun x s₄ =>
              wpAny (model prog w) A (call (.builtin "list.append") [acc, x]) (fun _ s₅ => ∃ m, m < n ∧ I m s₅) (notedBy (model prog w) A env fun e s' => R (.error e) s') s₄) (notedBy (model prog w) A env fun e s' => R (.error e) s') s₃
            else ∃ m, m < n ∧ I m s₃) (notedBy (model prog w) A env fun e s' => R (.error e) s') s₂) (notedBy (model prog w) A env fun e s' => R (.error e) s') s₁') (notedBy (model prog w) A env fun e s' => R (.error e) s') s₁) (notedBy (model prog w) A env fun e s' => R (.error e) s') s)
    (n : Nat) (h : I n s) :
    codeAny (model prog w) A (.compLoop (.ListComp elt [⟨target, iter, ifs, 0⟩] scope pos) 0 it acc env) R s := by
  refine codeAny_loop rfl I (fun n s hI => ?_) n h
  show wpAny _ A ((compTurn (.ListComp elt [⟨target, iter, ifs, 0⟩] scope pos) 0 it acc env).onRaise (fun x => do noteFrame x env; theTreesLotGoes x)) _ _ s
  refine wpAny_noted ?_
  rw [compTurn_list]
  refine wpAny_bind (wpAny_standAt (wpAny_bind (wpAny_mono (turn n s hI) (fun r s₁ h₁ => ?_) fun _ _ h' => h')))
  cases r with
  | none => exact wpAny_pure h₁
  | some v =>
    refine wpAny_bind (wpAny_mono h₁ (fun _ s₁' h₁' => ?_) fun _ _ h' => h')
    refine wpAny_bind (wpAny_mono h₁' (fun _ s₂ h₂ => wpAny_bind (wpAny_mono h₂ (fun ok s₃ h₃ => ?_) fun _ _ h' => h')) fun _ _ h' => h')
    cases ok with
    | false => exact wpAny_pure ⟨rfl, h₃⟩
    | true =>
      exact wpAny_bind (wpAny_bind (wpAny_mono h₃ (fun x s₄ h₄ => wpAny_bind (wpAny_mono h₄ (fun _ s₅ h₅ => wpAny_pure (wpAny_pure ⟨rfl, h₅⟩)) fun _ _ h' => h')) fun _ _ h' => h'))

section
variable {X : Cx}
/-- [elt for target in iter if ..]: D the new list; W by the turn and a measure, Nx what a turn is to reach -/
def tLc (wi : TI) (g : TG) (tt : TT) (te : TE) (vs : List Nat) : TE := fun σ H Q => wi σ H fun J H1 => ∀ D, H1 D = none → ∃ W : Nat → Nat → Hp → Prop, (∃ m, W 0 m (upd H1 D (.lst []))) ∧ ∀ i m H, W i m H →
  (J.stop i H ∧ Q (.ref D) H) ∨ (J.go i H ∧ ∃ Nx : Hp → Prop, (∀ H', Nx H' → ∃ m', m' < m ∧ W (i + 1) m' H') ∧ ∀ x H', J.yld i H x H' → g x (wipe σ vs) H' fun σ2 H2 => wipe σ2 vs = wipe σ vs ∧ tt σ2 H2 fun b H3 =>
    if b = true then te σ2 H3 fun y H4 => ∃ acc, H4 D = some (.lst acc) ∧ acc.length < sizeLine ∧ Nx (upd H4 D (.lst (acc ++ [y]))) else Nx H3)
theorem lc_core {pins : List (Addr × Obj)} {s : Shared} {σ : St} {H : Hp} {Q : VK} {elt tg iter : Expr} {ifs : List Expr} {scope : Scope} {own : List (Str × Nat)} {pos pos' : Pos} {wi : TI} {g : TG} {tt : TT} {te : TE} {use : Option (Value → Sem Unit)} {Qf : Value → Shared → Prop}
    (hc : X.calm = true) (hN : X.N.Nodup) (I : Inv X pins σ H s) (hi : PI X tg iter wi) (ok : BlkOk X.N X.env.scope scope own)
    (hg : ∀ (s : Shared) (H : Hp) (C : Addr) (cl : List (Str × Addr)) (fp : List Addr), PG (X.blk s H scope (compEnvC scope cl C X.env) fp) tg g) (ht : ∀ (s : Shared) (H : Hp) (C : Addr) (cl : List (Str × Addr)) (fp : List Addr), PTs (X.blk s H scope (compEnvC scope cl C X.env) fp) ifs tt)
    (he : ∀ (s : Shared) (H : Hp) (C : Addr) (cl : List (Str × Addr)) (fp : List Addr), PE (X.blk s H scope (compEnvC scope cl C X.env) fp) elt te) (hs : ∀ x, foldedSetIterable iter X.env x = pure x)
    (h : tLc wi g tt te (own.map (·.2)) σ H Q)
    (hRR : ∀ D C s' m H', Inv X pins σ H' s' → Q (.ref D) H' → s'.heap.Ns C m → FpOk X pins H' C → compPost (model X.prog X.w) X.A X.xe use Qf (.ref D) C (.ok .next) s') :
    wpAny (model X.prog X.w) X.A (comprehension (.ListComp elt [⟨tg, iter, ifs, 0⟩] scope pos) scope X.env pos' (newList []) false (eval iter X.env) use) Qf X.xe s := by
  have hfree : ∀ y ∈ scope.names, y.2 = .free → ∃ c, X.env.cells.lookup y.1 = some c := fun y hy e => by
    rcases ok.free y hy e with k | k
    · exact I.ok.has _ (.inl k)
    · exact I.ok.has _ (.inr k)
  refine wpAny_comprehension_free (use := use) rfl hs (closure_ok hfree) ok.kind (fun y hy e => by rw [ok.uniq y hy, e])
    (thn (hi pins s σ H _ I h) fun xv s1 hx => thn hx fun itv s2 h2 => ?_)
  obtain ⟨it, fp, tn, J, H2, e, I2, T, st2, f2, q⟩ := h2
  subst e
  refine wpAny_newObj_type (newEnv_comp ?_) (by show 0 ≤ sizeLine; decide)
  generalize hD : s2.heap.objs.size = D
  have hDn : H2 D = none := I2.hok.fresh (Nat.le_of_eq hD)
  obtain ⟨W, ⟨m0, w0⟩, turn⟩ := q D hDn
  -- the new list
  generalize hs3 : ({ s2 with heap := s2.heap.push { cls := .type "list", data := .seq ([] : List Value).toArray } } : Shared) = s3
  have I3 : Inv X pins σ (upd H2 D (.lst [])) s3 := by
    rw [← hs3]
    refine I2.laid (t' := s2.toks) (fun b o e => Heap.get?_push_of_some _ e) (Nat.le_of_eq hD) ⟨Nat.zero_le _, [], 0, .nil, ?_⟩
    rw [← hD]
    exact Heap.get?_push_size _ rfl
  have h3 : s3.heap = s2.heap.push { cls := .type "list", data := .seq ([] : List Value).toArray } := by rw [← hs3]
  have sz : ∀ b ∈ fp, b < s2.heap.objs.size := fun b hb => by
    obtain ⟨o, e, _⟩ := T.obj _ _ st2 b hb
    exact Heap.lt_size e
  have f3 : ∀ b ∈ fp, FpOk X pins (upd H2 D (.lst [])) b ∧ b < s3.heap.objs.size := fun b hb => by
    have hlt := sz b hb
    refine ⟨⟨?_, (f2 b hb).2⟩, by rw [h3, Heap.size_push]; exact Nat.lt_succ_of_lt hlt⟩
    rw [upd_ne (by rw [← hD]; exact Nat.ne_of_lt hlt)]
    exact (f2 b hb).1
  have st3 : tn 0 s3.heap := T.keep _ _ _ st2 fun b _ o e => by rw [h3]; exact Heap.get?_push_of_some _ e
  have I4 := block_start I3 ok hN f3
  have pg := hg s3 (upd H2 D (.lst [])) s3.heap.objs.size (cellsFrom (s3.heap.objs.size + 1) scope.names (cloFrom X.env.cells scope.names [])) fp
  have pt := ht s3 (upd H2 D (.lst [])) s3.heap.objs.size (cellsFrom (s3.heap.objs.size + 1) scope.names (cloFrom X.env.cells scope.names [])) fp
  have pe := he s3 (upd H2 D (.lst [])) s3.heap.objs.size (cellsFrom (s3.heap.objs.size + 1) scope.names (cloFrom X.env.cells scope.names [])) fp
  show codeAny _ _ (.compStart (.ListComp elt [⟨tg, iter, ifs, 0⟩] scope pos) 0 (.ref it) (.ref D) (compEnvC scope (cellsFrom (s3.heap.objs.size + 1) scope.names (cloFrom X.env.cells scope.names [])) s3.heap.objs.size X.env)) (compPost (model X.prog X.w) X.A X.xe use Qf (.ref D) s3.heap.objs.size) { s3 with heap := pushCells (s3.heap.push { cls := .type "dict", data := .dict #[] }) scope.names }
  have nfp : ∀ b ∈ fp, (upd H2 D (.lst [])) b = none := fun b hb => (f3 b hb).1.1
  generalize hce : compEnvC scope (cellsFrom (s3.heap.objs.size + 1) scope.names (cloFrom X.env.cells scope.names [])) s3.heap.objs.size X.env = ce at I4 pg pt pe ⊢
  have cL : ce.locals = s3.heap.objs.size := by subst hce; rfl
  generalize hH3 : upd H2 D (.lst []) = H3 at I3 I4 pg pt pe w0 nfp f3
  generalize hs4 : ({ s3 with heap := pushCells (s3.heap.push { cls := .type "dict", data := .dict #[] }) scope.names } : Shared) = s4 at I4 ⊢
  have st4 : tn 0 s4.heap := T.keep _ _ _ st3 fun b _ o e => by rw [← hs4]; exact pushCells_keeps _ _ _ _ (Heap.get?_push_of_some _ e)
  have stat : ∀ {σ' : St} {H' : Hp} {s' : Shared}, Inv (X.blk s3 H3 scope ce fp) [] σ' H' s' → (∀ b ∈ fp, H' b = none) → ∀ b ∈ fp, FpOk (X.blk s3 H3 scope ce fp) [] H' b := fun {σ' H' s'} I' hn b hb =>
    ⟨hn b hb, (I'.ok.exf b hb).1, I'.ok.exfs b hb, .inl hb, fun x c e => (I'.ok.exf b hb).2 x c e, fun p hp => absurd (show p ∈ ([] : List (Addr × Obj)) ++ [] from hp) (by simp)⟩
  have loop : codeAny (model X.prog X.w) X.A (.compLoop (.ListComp elt [⟨tg, iter, ifs, 0⟩] scope pos) 0 (.ref it) (.ref D) ce) (compPost (model X.prog X.w) X.A X.xe use Qf (.ref D) s3.heap.objs.size) s4 := by
    refine compLoop_any (fun n s' => ∃ i H', Inv (X.blk s3 H3 scope ce fp) [] (wipe σ (own.map (·.2))) H' s' ∧ tn i s'.heap ∧ (∀ b ∈ fp, H' b = none) ∧ W i n H') ?_ m0 ⟨0, H3, I4, st4, nfp, w0⟩
    rintro n s5 ⟨i, H5, I5, st5, n5, w5⟩
    rcases turn i n H5 w5 with ⟨stop, qq⟩ | ⟨go, Nx, hNx, step⟩
    · have td := T.done (X.blk s3 H3 scope ce fp) rfl rfl rfl hc i [] s5 _ H5 (fun _ _ => False) I5 (stat I5 n5) st5 stop
      refine thnF td fun r s6 ⟨hr, I6⟩ => ?_
      subst hr
      -- back in the def's context
      have I7 : Inv X pins σ H5 s6 := I3.call' (ch := fp) I6.os I6.base I6.hok I6.bare fun b hb => ⟨(f3 b hb).1.2.2.2.1, (f3 b hb).1.2.1, (f3 b hb).1.2.2.2.2.1, (f3 b hb).1.2.2.2.2.2⟩
      have nC : H5 s3.heap.objs.size = none := by
        have z : H5 ce.locals = none := I6.free
        rw [cL] at z
        exact z
      obtain ⟨m, hn, _⟩ := I6.loc
      have hn : s6.heap.Ns ce.locals m := hn
      rw [cL] at hn
      exact hRR D s3.heap.objs.size s6 m H5 I7 qq hn (I3.fpOk (Nat.le_refl _) nC)
    · have ti := T.item (X.blk s3 H3 scope ce fp) rfl rfl rfl hc i [] s5 _ H5 (fun _ _ => False) I5 (stat I5 n5) st5 go
      refine thnF ti fun r s6 ⟨u, hr, h6⟩ => ?_
      subst hr
      refine thnF h6 fun _ s7 ⟨x, H7, I7, r7, y7, st7, n7⟩ => ?_
      have I7' := I7.pinned (stat I7 n7) (T.obj _ _ st7)
      refine thnF (pg _ s7 _ H7 x u _ I7' r7 (step x H7 y7)) fun _ s8 ⟨σ8, H8, I8, hw8, q8⟩ => ?_
      refine thnF (pt _ s8 σ8 H8 _ I8 q8) fun b s9 ⟨H9, I9, q9⟩ => ?_
      -- the turn's end
      have fin : ∀ {s' : Shared} {H' : Hp}, Inv (X.blk s3 H3 scope ce fp) ([] ++ pinsAt fp s7.heap) σ8 H' s' → Nx H' → ∃ m, m < n ∧ ∃ i H', Inv (X.blk s3 H3 scope ce fp) [] (wipe σ (own.map (·.2))) H' s' ∧ tn i s'.heap ∧ (∀ b ∈ fp, H' b = none) ∧ W i m H' := fun {s' H'} I' nx => by
        obtain ⟨m', hm, w'⟩ := hNx H' nx
        have pin' : ∀ b ∈ fp, ∀ o, s7.heap.get? b = some o → s'.heap.get? b = some o ∧ H' b = none := fun b hb o e =>
          let z := I'.pin (b, o) (List.mem_append_right _ (List.mem_append_right _ (mem_pinsAt hb e)))
          ⟨z.1, z.2.1⟩
        have hl : (wipe σ (own.map (·.2))).length = σ8.length := by rw [← hw8, wipe_length]
        refine ⟨m', hm, i + 1, H', (I'.unpinned (pins := [])).weak hl (fun j v e => ?_), T.keep _ _ _ st7 fun b hb o e => (pin' b hb o e).1, fun b hb => ?_, w'⟩
        · rw [← hw8] at e
          exact (wipe_some e).1
        · obtain ⟨o, e, _⟩ := T.obj _ _ st7 b hb
          exact (pin' b hb o e).2
      cases b with
      | false =>
        simp only [Bool.false_eq_true, if_false] at q9 ⊢
        exact fin I9 q9
      | true =>
        simp only [if_true] at q9 ⊢
        refine thnF (pe _ s9 σ8 H9 _ I9 q9) fun z s10 ⟨yv, H10, I10, r10, acc, hD10, hz10, nx⟩ => ?_
        exact app_ok (X := X.blk s3 H3 scope ce fp) I10 hD10 hz10 r10 fun s11 I11 => fin I11 nx
  exact codeAny_compStart_list loop (T.self X.A 0 _ _ _ st4 loop)
/-- as a value -/
theorem pe_lc {elt tg iter : Expr} {ifs : List Expr} {scope : Scope} {own : List (Str × Nat)} {pos : Pos} {wi : TI} {g : TG} {tt : TT} {te : TE} (hc : X.calm = true) (hN : X.N.Nodup) (hi : PI X tg iter wi) (ok : BlkOk X.N X.env.scope scope own)
    (hg : ∀ (s : Shared) (H : Hp) (C : Addr) (cl : List (Str × Addr)) (fp : List Addr), PG (X.blk s H scope (compEnvC scope cl C X.env) fp) tg g) (ht : ∀ (s : Shared) (H : Hp) (C : Addr) (cl : List (Str × Addr)) (fp : List Addr), PTs (X.blk s H scope (compEnvC scope cl C X.env) fp) ifs tt)
    (he : ∀ (s : Shared) (H : Hp) (C : Addr) (cl : List (Str × Addr)) (fp : List Addr), PE (X.blk s H scope (compEnvC scope cl C X.env) fp) elt te) (hs : ∀ x, foldedSetIterable iter X.env x = pure x := by intro _; rfl) :
    PE X (.ListComp elt [⟨tg, iter, ifs, 0⟩] scope pos) (tLc wi g tt te (own.map (·.2))) := by
  intro pins s σ H Q I h
  rw [eval_ListComp]
  refine lc_core hc hN I hi ok hg ht he hs h fun D C s' m H' I' q hn f => ⟨m, hn, fun h'' sb => ?_⟩
  obtain ⟨f0, f1, f2, f3, f4, f5⟩ := f
  exact ⟨.ref D, H', I'.turned (t' := s'.toks) (fun b o hb e => (sb.2 b hb).trans e) f0 f1 f3 f4 f5, rfl, q⟩
/-- name = [..] on one line, the name a local -/
theorem ps_setLc {i : Nat} {y : Str} {py : Pos} {elt tg iter : Expr} {ifs : List Expr} {scope : Scope} {own : List (Str × Nat)} {pos spos : Pos} {wi : TI} {g : TG} {tt : TT} {te : TE} (hc : X.calm = true) (hN : X.N.Nodup) (hy : X.N[i]? = some y) (hyl : X.env.scope.names.lookup y = some .local)
    (hsw : swapsWith (.ListComp elt [⟨tg, iter, ifs, 0⟩] scope pos) (some (.Name y py)) spos.line X.env = pure true) (hi : PI X tg iter wi) (ok : BlkOk X.N X.env.scope scope own)
    (hg : ∀ (s : Shared) (H : Hp) (C : Addr) (cl : List (Str × Addr)) (fp : List Addr), PG (X.blk s H scope (compEnvC scope cl C X.env) fp) tg g) (ht : ∀ (s : Shared) (H : Hp) (C : Addr) (cl : List (Str × Addr)) (fp : List Addr), PTs (X.blk s H scope (compEnvC scope cl C X.env) fp) ifs tt)
    (he : ∀ (s : Shared) (H : Hp) (C : Addr) (cl : List (Str × Addr)) (fp : List Addr), PE (X.blk s H scope (compEnvC scope cl C X.env) fp) elt te) (hs : ∀ x, foldedSetIterable iter X.env x = pure x := by intro _; rfl) :
    PS X (.Assign [.Name y py] (.ListComp elt [⟨tg, iter, ifs, 0⟩] scope pos) spos) (tAsg (tLc wi g tt te (own.map (·.2))) (gName i)) := by
  intro pins s σ H D I h
  rw [exec_Assign_Name_used _ _ _ _ hsw]
  refine wpAny_bind (wpAny_standAt (wpAny_bind ?_))
  show wpAny _ X.A (do let _ ← comprehension (.ListComp elt [⟨tg, iter, ifs, 0⟩] scope pos) scope X.env (firstIterPos [⟨tg, iter, ifs, 0⟩] pos) (newList []) false (eval iter X.env) (some (assign (.Name y py) X.env))) _ _ s
  have h : tLc wi g tt te (own.map (·.2)) σ H (fun x H1 => gName i x σ H1 D.nx) := h
  refine wpAny_bind (thn (lc_core (Qf := fun _ s' => SP X pins D .next s') hc hN I hi ok hg ht he hs h fun L C s' m H' I' q hn f => ?_) fun _ s' hq => wpAny_pure (wpAny_pure hq))
  show wpAny _ _ (assign (.Name y py) X.env (.ref L)) _ _ _
  refine wpAny_assign_Name (store_ok2 (v := V.ref L) I' hN hy (.inl hyl) rfl (fun s2 I2 ⟨a, sb, ha⟩ => ?_) (.inr hyl))
  obtain ⟨f0, f1, f2, f3, f4, f5⟩ := f
  have haC : C ≠ a := by
    rcases ha with z | z
    · rw [z]; exact f1
    · exact fun e => f4 y a z e.symm
  refine ⟨m, hn.sameBut sb haC, fun h3 sb3 => ?_⟩
  exact ⟨_, H', I2.turned (t' := s2.toks) (fun b o hb e => (sb3.2 b hb).trans e) f0 f1 f3 f4 f5, q⟩
end

/-! ### the forms one uses -/
/-- over a range: Pv by the turn and the heap (the new list at D within) -/
theorem lc_range {lo : Int} {n : Nat} {g : TG} {tt : TT} {te : TE} {vs : List Nat} {σ : St} {H1 : Hp} {D : Addr} {Qd : Hp → Prop} (Pv : Nat → Hp → Prop) (h0 : Pv 0 (upd H1 D (.lst [])))
    (hs : ∀ i H, i < n → Pv i H → g (.int (lo + i)) (wipe σ vs) H fun σ2 H2 => wipe σ2 vs = wipe σ vs ∧ tt σ2 H2 fun b H3 =>
      if b = true then te σ2 H3 fun y H4 => ∃ acc, H4 D = some (.lst acc) ∧ acc.length < sizeLine ∧ Pv (i + 1) (upd H4 D (.lst (acc ++ [y]))) else Pv (i + 1) H3) (hd : ∀ H, Pv n H → Qd H) :
    ∃ W : Nat → Nat → Hp → Prop, (∃ m, W 0 m (upd H1 D (.lst []))) ∧ ∀ i m H, W i m H →
      ((Itr lo n).stop i H ∧ Qd H) ∨ ((Itr lo n).go i H ∧ ∃ Nx : Hp → Prop, (∀ H', Nx H' → ∃ m', m' < m ∧ W (i + 1) m' H') ∧ ∀ x H', (Itr lo n).yld i H x H' → g x (wipe σ vs) H' fun σ2 H2 => wipe σ2 vs = wipe σ vs ∧ tt σ2 H2 fun b H3 =>
        if b = true then te σ2 H3 fun y H4 => ∃ acc, H4 D = some (.lst acc) ∧ acc.length < sizeLine ∧ Nx (upd H4 D (.lst (acc ++ [y]))) else Nx H3) := by
  refine ⟨fun i m H => m = n - i ∧ i ≤ n ∧ Pv i H, ⟨n, by simp, Nat.zero_le _, h0⟩, ?_⟩
  rintro i m H ⟨rfl, hi, p⟩
  by_cases hlt : i < n
  · refine .inr ⟨hlt, Pv (i + 1), fun H' p' => ⟨n - (i + 1), by omega, rfl, hlt, p'⟩, fun x H' y => ?_⟩
    obtain ⟨e, y⟩ := y
    subst e y
    exact hs i _ hlt p
  · have e : i = n := by omega
    subst e
    exact .inl ⟨Nat.le_refl _, hd H p⟩
/-- over a list that the block leaves as it is -/
theorem lc_list {K : PySem.W.Frag} {a : Addr} {xs : List V} {g : TG} {tt : TT} {te : TE} {vs : List Nat} {σ : St} {H1 : Hp} {D : Addr} {Qd : Hp → Prop} (Pv : Nat → Hp → Prop) (h0 : Pv 0 (upd H1 D (.lst []))) (hl : ∀ i H, i ≤ xs.length → Pv i H → SqL K H a xs)
    (hs : ∀ i x H, xs[i]? = some x → Pv i H → g x (wipe σ vs) H fun σ2 H2 => wipe σ2 vs = wipe σ vs ∧ tt σ2 H2 fun b H3 =>
      if b = true then te σ2 H3 fun y H4 => ∃ acc, H4 D = some (.lst acc) ∧ acc.length < sizeLine ∧ Pv (i + 1) (upd H4 D (.lst (acc ++ [y]))) else Pv (i + 1) H3) (hd : ∀ H, Pv xs.length H → Qd H) :
    ∃ W : Nat → Nat → Hp → Prop, (∃ m, W 0 m (upd H1 D (.lst []))) ∧ ∀ i m H, W i m H →
      ((Itl K a).stop i H ∧ Qd H) ∨ ((Itl K a).go i H ∧ ∃ Nx : Hp → Prop, (∀ H', Nx H' → ∃ m', m' < m ∧ W (i + 1) m' H') ∧ ∀ x H', (Itl K a).yld i H x H' → g x (wipe σ vs) H' fun σ2 H2 => wipe σ2 vs = wipe σ vs ∧ tt σ2 H2 fun b H3 =>
        if b = true then te σ2 H3 fun y H4 => ∃ acc, H4 D = some (.lst acc) ∧ acc.length < sizeLine ∧ Nx (upd H4 D (.lst (acc ++ [y]))) else Nx H3) := by
  refine ⟨fun i m H => m = xs.length - i ∧ i ≤ xs.length ∧ Pv i H, ⟨xs.length, by simp, Nat.zero_le _, h0⟩, ?_⟩
  rintro i m H ⟨rfl, hi, p⟩
  have q := hl i H hi p
  by_cases hlt : i < xs.length
  · refine .inr ⟨⟨xs, xs[i], q, by simp [hlt]⟩, Pv (i + 1), fun H' p' => ⟨xs.length - (i + 1), by omega, rfl, hlt, p'⟩, fun x H' y => ?_⟩
    obtain ⟨e, y⟩ := y
    subst e
    exact hs i x _ (y xs q) p
  · have e : i = xs.length := by omega
    subst e
    exact .inl ⟨⟨xs, q, Nat.le_refl _⟩, hd H p⟩
/-- over a tuple -/
theorem lc_tup {K : PySem.W.Frag} {a : Addr} {xs : List V} {g : TG} {tt : TT} {te : TE} {vs : List Nat} {σ : St} {H1 : Hp} {D : Addr} {Qd : Hp → Prop} (Pv : Nat → Hp → Prop) (h0 : Pv 0 (upd H1 D (.lst []))) (hl : ∀ i H, i ≤ xs.length → Pv i H → SqT K H a xs)
    (hs : ∀ i x H, xs[i]? = some x → Pv i H → g x (wipe σ vs) H fun σ2 H2 => wipe σ2 vs = wipe σ vs ∧ tt σ2 H2 fun b H3 =>
      if b = true then te σ2 H3 fun y H4 => ∃ acc, H4 D = some (.lst acc) ∧ acc.length < sizeLine ∧ Pv (i + 1) (upd H4 D (.lst (acc ++ [y]))) else Pv (i + 1) H3) (hd : ∀ H, Pv xs.length H → Qd H) :
    ∃ W : Nat → Nat → Hp → Prop, (∃ m, W 0 m (upd H1 D (.lst []))) ∧ ∀ i m H, W i m H →
      ((Itt K a).stop i H ∧ Qd H) ∨ ((Itt K a).go i H ∧ ∃ Nx : Hp → Prop, (∀ H', Nx H' → ∃ m', m' < m ∧ W (i + 1) m' H') ∧ ∀ x H', (Itt K a).yld i H x H' → g x (wipe σ vs) H' fun σ2 H2 => wipe σ2 vs = wipe σ vs ∧ tt σ2 H2 fun b H3 =>
        if b = true then te σ2 H3 fun y H4 => ∃ acc, H4 D = some (.lst acc) ∧ acc.length < sizeLine ∧ Nx (upd H4 D (.lst (acc ++ [y]))) else Nx H3) := by
  refine ⟨fun i m H => m = xs.length - i ∧ i ≤ xs.length ∧ Pv i H, ⟨xs.length, by simp, Nat.zero_le _, h0⟩, ?_⟩
  rintro i m H ⟨rfl, hi, p⟩
  have q := hl i H hi p
  by_cases hlt : i < xs.length
  · refine .inr ⟨⟨xs, xs[i], q, by simp [hlt]⟩, Pv (i + 1), fun H' p' => ⟨xs.length - (i + 1), by omega, rfl, hlt, p'⟩, fun x H' y => ?_⟩
    obtain ⟨e, y⟩ := y
    subst e
    exact hs i x _ (y xs q) p
  · have e : i = xs.length := by omega
    subst e
    exact .inl ⟨⟨xs, q, Nat.le_refl _⟩, hd H p⟩
def blkC (N : List Str) (sc scope : Scope) (own : List (Str × Nat)) : Bool :=
  (match scope.kind with | .function => true | _ => false) && (scope.names.all fun y => decide (scope.names.lookup y.1 = some y.2)) && (own.all fun p => decide (N[p.2]? = some p.1)) &&
    (scope.names.all fun y => match y.2 with
      | .free => (match sc.names.lookup y.1 with | some .cell => true | some .free => true | _ => false)
      | .local => decide (y.1 ∈ own.map (·.1)) || decide (y.1 ∉ N)
      | .cell => decide (y.1 ∈ own.map (·.1)) || decide (y.1 ∉ N)
      | _ => true)
end L2

namespace L2
open PySem PySem.Spec PyProof.Rows


section
variable {prog : Program} {w : World} {A : Around} {R : Result → Shared → Prop} {s : Shared} {elt t0 i0 t1 i1 : Expr} {ifs0 ifs1 : List Expr} {scope : Scope} {pos : Pos} {it acc : Value} {env : Env}
end

section
variable {X : Cx}
/-- [elt for tg in iter if .. for tg1 in iter1 if ..]: behind the first clause's store and tests the second source's own loop, from which Nx is reached. vs: the block's names; vs1: those of the second target -/
def tLc2 (wi : TI) (g : TG) (tt : TT) (wi1 : TI) (g1 : TG) (tt1 : TT) (te : TE) (vs vs1 : List Nat) : TE := fun σ H Q => wi σ H fun J H1 => ∀ D, H1 D = none → ∃ W : Nat → Nat → Hp → Prop, (∃ m, W 0 m (upd H1 D (.lst []))) ∧ ∀ i m H, W i m H →
  (J.stop i H ∧ Q (.ref D) H) ∨ (J.go i H ∧ ∃ Nx : Hp → Prop, (∀ H', Nx H' → ∃ m', m' < m ∧ W (i + 1) m' H') ∧ ∀ x H', J.yld i H x H' → g x (wipe σ vs) H' fun σ2 H2 => wipe σ2 vs = wipe σ vs ∧ tt σ2 H2 fun b H3 =>
    if b = true then wi1 σ2 H3 fun J1 H4 => ∃ W1 : Nat → Nat → Hp → Prop, (∃ m, W1 0 m H4) ∧ ∀ j k H, W1 j k H →
      (J1.stop j H ∧ Nx H) ∨ (J1.go j H ∧ ∃ Nx1 : Hp → Prop, (∀ H', Nx1 H' → ∃ k', k' < k ∧ W1 (j + 1) k' H') ∧ ∀ x H', J1.yld j H x H' → g1 x (wipe σ2 vs1) H' fun σ3 H5 => wipe σ3 vs1 = wipe σ2 vs1 ∧ tt1 σ3 H5 fun b H6 =>
        if b = true then te σ3 H6 fun y H7 => ∃ acc, H7 D = some (.lst acc) ∧ acc.length < sizeLine ∧ Nx1 (upd H7 D (.lst (acc ++ [y]))) else Nx1 H6)
    else Nx H3)
end
end L2

namespace L2
open PySem PySem.Spec PyProof.Rows

/-! ### lists of pairs as tables -/
section
variable {κ : Type} [DecidableEq κ]
def valV (kvs : List (κ × V)) (k : κ) : Option V := (kvs.find? fun kv => decide (kv.1 = k)).map (·.2)
/-- in its place, or at the end -/
def putK (kvs : List (κ × V)) (k : κ) (v : V) : List (κ × V) :=
  if (kvs.any fun kv => decide (kv.1 = k)) = true then kvs.map (fun kv => if kv.1 = k then (kv.1, v) else kv) else kvs ++ [(k, v)]
def dropK (kvs : List (κ × V)) (k : κ) : List (κ × V) := kvs.filter fun kv => decide (kv.1 ≠ k)



end


/-! ### a tracked dict, its keys ints and texts or tuples of these -/

/-- raw entries of a dict with tuple keys -/
abbrev KT (H : Hp) : List (List Key × V) → List (List Key × Addr × Value) → Prop := Paired fun p q => p.1 = q.1 ∧ H q.2.1 = some (.tup (p.1.map kV)) ∧ RelV p.2 q.2.2

section
variable {P : Program} {w : World} {H : Hp} {h : Heap} {a : Addr}
end

/-- what the dict at a holds at the key y -/
def DGet (H : Hp) (a : Addr) (y : V) (r : Option V) : Prop :=
  (∃ kvs k, Rd H a (.dK kvs) ∧ y = kV k ∧ r = valV kvs k) ∨ ∃ kvs k b, Rd H a (.dT kvs) ∧ y = .ref b ∧ H b = some (.tup (k.map kV)) ∧ r = valV kvs k
/-- the heap behind a[y] = v -/
def DPut (H : Hp) (a : Addr) (y v : V) (H' : Hp) : Prop :=
  (∃ kvs k, H a = some (.dK kvs) ∧ y = kV k ∧ kvs.length < sizeLine ∧ H' = upd H a (.dK (putK kvs k v))) ∨
  ∃ kvs k b, H a = some (.dT kvs) ∧ y = .ref b ∧ H b = some (.tup (k.map kV)) ∧ kvs.length < sizeLine ∧ H' = upd H a (.dT (putK kvs k v))


section
variable {X : Cx} {pins : List (Addr × Obj)} {σ : St} {H : Hp} {s : Shared} {a : Addr} {y v : V} {u r : Value} {o : Option V} {A : Around} {E : Value → Shared → Prop}


end

section
variable {X : Cx} {pins : List (Addr × Obj)} {σ : St} {H : Hp} {s : Shared} {a : Addr} {kvs : List (Key × V)} {k : Key} {u : Value} {A : Around} {E : Value → Shared → Prop}
end


/-! ### readings and rules -/
/-- the element of a subscription, not a slice -/
def NoSl (i : Expr) : Prop := ∀ ov iv, subscripted i false ov iv = operate [ov, iv] (getItem ov iv)


/-- d[y] -/
def tDGet (td ty : TE) : TE := fun σ H Q => td σ H fun x H1 => ty σ H1 fun y H2 => ∃ a v, x = .ref a ∧ DGet H2 a y (some v) ∧ Q v H2
/-- y in d, y not in d -/
def tDIn (ty td : TE) : TE := fun σ H Q => ty σ H fun y H1 => td σ H1 fun x H2 => ∃ a o, x = .ref a ∧ DGet H2 a y o ∧ Q (.bl o.isSome) H2
def tDNotIn (ty td : TE) : TE := fun σ H Q => ty σ H fun y H1 => td σ H1 fun x H2 => ∃ a o, x = .ref a ∧ DGet H2 a y o ∧ Q (.bl (!o.isSome)) H2
/-- d[y] = v -/
def sDPut (td ty tv : TE) : TS := fun D σ H => tv σ H fun v H1 => td σ H1 fun x H2 => ty σ H2 fun y H3 => ∃ a H4, x = .ref a ∧ DPut H3 a y v H4 ∧ D.nx σ H4
/-- d[y] op= v -/
def sDAug (td ty tv : TE) (rd : V → V → Hp → VK → Prop) : TS := fun D σ H => td σ H fun x H1 => ty σ H1 fun y H2 => ∃ a v, x = .ref a ∧ DGet H2 a y (some v) ∧
  tv σ H2 fun y2 H3 => rd v y2 H3 fun z H4 => ∃ H5, DPut H4 a y z H5 ∧ D.nx σ H5
/-- del d[y] -/
def sDDel (td ty : TE) : TS := fun D σ H => td σ H fun x H1 => ty σ H1 fun y H2 => ∃ a kvs k, x = .ref a ∧ H2 a = some (.dK kvs) ∧ y = kV k ∧ (valV kvs k).isSome = true ∧ D.nx σ (upd H2 a (.dK (dropK kvs k)))

section
variable {X : Cx} {o i e value : Expr} {pos pos' tpos : Pos} {td ty tv : TE}
end


/-! ### displays -/
/-- {}, to be a dict of the kind that is wanted -/
def tDNewK : TE := fun _ H Q => ∀ p, H p = none → Q (.ref p) (upd H p (.dK []))
def tDNewT : TE := fun _ H Q => ∀ p, H p = none → Q (.ref p) (upd H p (.dT []))
section
variable {X : Cx} {pos : Pos}
end

/-- the pairs of a display, from the left -/
def tPairs : List (TE × TE) → St → Hp → (List (V × V) → Hp → Prop) → Prop
  | [], _, H, Q => Q [] H
  | (tk, tv) :: r, σ, H, Q => tk σ H fun x H1 => tv σ H1 fun y H2 => tPairs r σ H2 fun ps H3 => Q ((x, y) :: ps) H3
abbrev VV : List (V × V) → List (Value × Value) → Prop := Paired fun p q => RelV p.1 q.1 ∧ RelV p.2 q.2
def PPs (X : Cx) (pos : Pos) (keys : List (Option Expr)) (values : List Expr) (trs : List (TE × TE)) : Prop :=
  ∀ (pins : List (Addr × Obj)) (s : Shared) (σ : St) (H : Hp) (Q : List (V × V) → Hp → Prop), Inv X pins σ H s → tPairs trs σ H Q →
    wpAny (model X.prog X.w) X.A (evalPairs (pairTrees keys values X.env pos)) (fun vs s' => ∃ ps H', Inv X pins σ H' s' ∧ VV ps vs ∧ Q ps H') X.xe s

def mergeK (kvs more : List (Key × V)) : List (Key × V) := more.foldl (fun acc kv => putK acc kv.1 kv.2) kvs
/-- {k: v, ..} with keys ints and texts; the new dict stands empty while the pairs are made -/
def tDisp (trs : List (TE × TE)) : TE := fun σ H Q => ∀ p, H p = none → tPairs trs σ (upd H p (.dK [])) fun ps H2 => H2 p = some (.dK []) ∧ ∃ kvs : List (Key × V), ps = kvs.map (fun kv => (kV kv.1, kv.2)) ∧ kvs.length ≤ 15 ∧ Q (.ref p) (upd H2 p (.dK (mergeK [] kvs)))


/-! ### methods -/
/-- a method call o.m(e) of a built-in, with one argument: what must be seen of the text -/
structure M1 (X : Cx) (o : Expr) (m : Str) (apos : Pos) (e : Expr) (cpos : Pos) : Prop where
  base : attributeBase o m X.env (eval o X.env) = eval o X.env
  few : ((backTo cpos (starEach [e] X.env)).all (fun x => !x.1) && (backToKw cpos (keywordEach [] X.env)).all (fun x => x.1.isSome)
    && decide (([e] : List Expr).length + ([] : List Keyword).length + (if ([] : List Keyword).isEmpty then 0 else 1) < 30)) = true
  line : (apos.endLine == cpos.line) = true
  trees : backTo cpos (starEach [e] X.env) = [(false, eval e X.env)]
structure M2 (X : Cx) (o : Expr) (m : Str) (apos : Pos) (e f : Expr) (cpos : Pos) : Prop where
  base : attributeBase o m X.env (eval o X.env) = eval o X.env
  few : ((backTo cpos (starEach [e, f] X.env)).all (fun x => !x.1) && (backToKw cpos (keywordEach [] X.env)).all (fun x => x.1.isSome)
    && decide (([e, f] : List Expr).length + ([] : List Keyword).length + (if ([] : List Keyword).isEmpty then 0 else 1) < 30)) = true
  line : (apos.endLine == cpos.line) = true
  trees : backTo cpos (starEach [e, f] X.env) = [(false, eval e X.env), (false, eval f X.env)]

/-- a is a dict, whatever its keys -/
def IsD (H : Hp) (a : Addr) : Prop := (∃ kvs, Rd H a (.dK kvs)) ∨ ∃ kvs, Rd H a (.dT kvs)

section
variable {X : Cx} {pins : List (Addr × Obj)} {σ : St} {H : Hp} {s : Shared} {a : Addr} {y d : V} {u r : Value} {o : Option V} {A : Around} {E : Value → Shared → Prop}
end

def tDGet1 (td ty : TE) : TE := fun σ H Q => td σ H fun x H1 => ∃ a, x = .ref a ∧ IsD H1 a ∧ ty σ H1 fun y H2 => ∃ o, DGet H2 a y o ∧ Q (o.getD .non) H2
def tDGet2 (td ty tx : TE) : TE := fun σ H Q => td σ H fun x H1 => ∃ a, x = .ref a ∧ IsD H1 a ∧ ty σ H1 fun y H2 => tx σ H2 fun z H3 => ∃ o, DGet H3 a y o ∧ Q (o.getD z) H3
/-- d.pop(k): there; d.pop(k, x): there or not -/
def tDPop1 (td ty : TE) : TE := fun σ H Q => td σ H fun x H1 => ∃ a, x = .ref a ∧ IsD H1 a ∧ ty σ H1 fun y H2 => ∃ kvs k v, H2 a = some (.dK kvs) ∧ y = kV k ∧ valV kvs k = some v ∧ Q v (upd H2 a (.dK (dropK kvs k)))
def tDPop2 (td ty tx : TE) : TE := fun σ H Q => td σ H fun x H1 => ∃ a, x = .ref a ∧ IsD H1 a ∧ ty σ H1 fun y H2 => tx σ H2 fun z H3 => ∃ kvs k, H3 a = some (.dK kvs) ∧ y = kV k ∧
  (∀ v, valV kvs k = some v → Q v (upd H3 a (.dK (dropK kvs k)))) ∧ (valV kvs k = none → Q z H3)
section
variable {X : Cx} {o e f : Expr} {apos cpos : Pos} {td ty tx : TE}
end

/-! ### dict(d): a copy -/
section
variable {X : Cx} {pins : List (Addr × Obj)} {σ : St} {H : Hp} {s : Shared} {a : Addr} {kvs : List (Key × V)} {A : Around} {E : Value → Shared → Prop}
end


section
variable {X : Cx} {pins : List (Addr × Obj)} {σ : St} {H : Hp} {s : Shared} {a : Addr} {y : V} {u : Value} {A : Around} {E : Value → Shared → Prop}
end
end L2

namespace L2
open PySem PySem.Spec PyProof.Rows


section
variable {prog : Program} {w : World} {A : Around} {E : Value → Shared → Prop}


end

section
variable {X : Cx}
end
end L2

namespace L2
open PySem PySem.Spec PyProof.Rows


section
variable {X : Cx} {pins : List (Addr × Obj)} {σ : St} {H : Hp} {s : Shared} {h' : Heap}
/-- several records of ours have turned -/
theorem Inv.turnedL {t' : Nat} {ch : List Addr} (I : Inv X pins σ H s) (k : ∀ b o, b ∉ ch → s.heap.get? b = some o → h'.get? b = some o) (hf : ∀ b ∈ ch, FpOk X pins H b) : Inv X pins σ H { s with heap := h', toks := t' } := by
  have nit : ∀ b u, H b = some u → b ∉ ch := fun b u e z => by
    have q := (hf b z).1
    rw [q] at e; cases e
  refine I.step (g' := s.gens) (d' := s.drawn) (ch := ch) (fun b hb => ⟨(hf b hb).2.2.2.1, (hf b hb).2.1, (hf b hb).2.2.2.2.1, (hf b hb).2.2.2.2.2⟩) (fun b o _ _ hc e _ => k b o hc e) (fun b o _ _ hc e _ => ⟨o.slots, k b o hc e⟩)
    (fun _ _ _ _ n => n) (fun b o hc e => ⟨o, k b o hc e⟩) (fun _ _ e => e) (fun _ _ _ e => e) (fun b ps e => ⟨#[], by rw [e]; simp⟩) (fun m hm => ?_) (fun b u e => ?_) I.bare
  · obtain ⟨o, es, ep, ho, r⟩ := hm
    exact ⟨o, es, ep, k _ o (fun z => (hf _ z).2.1 rfl) ho, r⟩
  · refine (I.hok b u e).stay (fun c v hc q => k c v ?_ q) (fun _ q => q) fun _ _ q => q
    rcases hc with z | z
    · rw [z]; exact nit b u e
    · exact nit c _ z
/-- .. and one new object is laid -/
theorem Inv.turnedNew {t' : Nat} {ch : List Addr} {T : Addr} {ob : HO} (I : Inv X pins σ H s) (k : ∀ b o, b ∉ ch → s.heap.get? b = some o → h'.get? b = some o) (hf : ∀ b ∈ ch, FpOk X pins H b) (hT : s.heap.objs.size ≤ T)
    (new : ObjOk X.prog X.w (upd H T ob) h' T ob) : Inv X pins σ (upd H T ob) { s with heap := h', toks := t' } := by
  have hn : H T = none := I.hok.fresh hT
  have nit : ∀ b u, H b = some u → b ∉ ch := fun b u e z => by
    have q := (hf b z).1
    rw [q] at e; cases e
  refine I.step (g' := s.gens) (d' := s.drawn) (ch := ch) (fun b hb => ⟨(hf b hb).2.2.2.1, (hf b hb).2.1, (hf b hb).2.2.2.2.1, (hf b hb).2.2.2.2.2⟩) (fun b o _ _ hc e _ => k b o hc e) (fun b o _ _ hc e _ => ⟨o.slots, k b o hc e⟩)
    (fun b o _ e n => ?_) (fun b o hc e => ⟨o, k b o hc e⟩) (fun b xs e => ?_) (fun b o u e => ?_) (fun b ps e => ⟨#[], ?_⟩) (fun m hm => ?_) (fun b u e => ?_) I.bare
  · rw [upd_ne (Nat.ne_of_lt (Nat.lt_of_lt_of_le (Heap.lt_size e) hT))]; exact n
  · rw [upd_ne (ne_of_none e hn)]; exact e
  · rw [upd_ne (ne_of_none e hn)]; exact e
  · rw [upd_ne (ne_of_none e hn), e]; simp
  · obtain ⟨o, es, ep, ho, r⟩ := hm
    exact ⟨o, es, ep, k _ o (fun z => (hf _ z).2.1 rfl) ho, r⟩
  · by_cases hb : b = T
    · subst hb
      rw [upd_same] at e
      cases e
      exact new
    · rw [upd_ne hb] at e
      refine (I.hok b u e).stay (fun c v hc q => k c v ?_ q) (fun c q => by rw [upd_ne (ne_of_none q hn)]; exact q) fun c xs q => by rw [upd_ne (ne_of_none q hn)]; exact q
      rcases hc with z | z
      · rw [z]; exact nit b u e
      · exact nit c _ z

/-! ### locking a thing while a statement runs -/
end
/-- the statement runs while the thing at d is locked (read, not written); d and what stands there are the reading's choice -/
def tLock (t : TS) : TS := fun D σ H => ∃ d u, H d = some u ∧ Mut (some u) ∧ ∀ od, t ⟨fun σ' H' => H' d = some (.frz od u) ∧ D.nx σ' (upd H' d u), fun v H' => H' d = some (.frz od u) ∧ D.rt v (upd H' d u), fun σ' H' => H' d = some (.frz od u) ∧ D.bk σ' (upd H' d u), fun σ' H' => H' d = some (.frz od u) ∧ D.ct σ' (upd H' d u)⟩ σ (upd H d (.frz od u))
def tLockE (t : TE) : TE := fun σ H Q => ∃ d u, H d = some u ∧ Mut (some u) ∧ ∀ od, t σ (upd H d (.frz od u)) fun v H' => H' d = some (.frz od u) ∧ Q v (upd H' d u)
section
variable {X : Cx}

/-! ### one iterator just laid -/
end

/-! ### range with a step -/
/-- lo, lo + c, .. (n of them) -/
def Itc (lo c : Int) (n : Nat) : It := ⟨fun i _ => i < n, fun i H x H' => H' = H ∧ x = .int (lo + (i : Nat) * c), fun i _ => n ≤ i⟩
/-- range(i, j, c): small bounds, n items -/
def RgC (i j c : Int) (n : Nat) : Prop := c ≠ 0 ∧ c.natAbs < 1073741824 ∧ Builtin.Range.small i j c = true ∧ Builtin.Range.rangeSize i j c = n
def iRng3 (ta : TA) : TI := fun σ H R => ta σ H fun vs H1 => ∃ (i j c : Int) (n : Nat), vs = [.int i, .int j, .int c] ∧ RgC i j c n ∧ R (Itc i c n) H1
section
variable {X : Cx} {tg : Expr}
end

/-! ### reversed(list) -/
/-- the list at a (n items at the start, which the loop leaves there), from its end -/
def Itv (K : PySem.W.Frag) (a : Addr) (n : Nat) : It :=
  ⟨fun i H => i < n ∧ ∃ (xs : List V) (x : V), SqL K H a xs ∧ xs[n - 1 - i]? = some x, fun i H x H' => H' = H ∧ ∀ xs, SqL K H a xs → xs[n - 1 - i]? = some x, fun i _ => n ≤ i⟩
def iRev (K : PySem.W.Frag) (ta : TA) : TI := fun σ H R => ta σ H fun vs H1 => ∃ (a : Addr) (xs : List V), vs = [.ref a] ∧ SqL K H1 a xs ∧ R (Itv K a xs.length) H1
section
variable {X : Cx} {tg : Expr}
end

/-! ### a str -/
def Its (x : Str) : It := ⟨fun i _ => i < x.cps.size, fun i H v H' => H' = H ∧ ∃ c, x.cps[i]? = some c ∧ v = .str ⟨#[c]⟩, fun i _ => x.cps.size ≤ i⟩
def iStr (te : TE) : TI := fun σ H R => te σ H fun v H1 => ∃ x, v = .str x ∧ R (Its x) H1

/-! ### a dict's keys: any dict's entries -/
section
variable {prog : Program} {w : World} {A : Around} {E : Value → Shared → Prop} {s : Shared}
end

/-! ### a locked dict -/
section
variable {X : Cx} {pins : List (Addr × Obj)} {σ : St} {H : Hp} {s : Shared} {d : Addr} {o : Obj}
end

/-- the keys of the locked dict at d, in their order -/
def Itk (d : Addr) (o : Obj) (kvs : List (Key × V)) : It :=
  ⟨fun i H => H d = some (.frz o (.dK kvs)) ∧ i < kvs.length, fun i H x H' => H' = H ∧ ∃ k v, kvs[i]? = some (k, v) ∧ x = kV k, fun i H => H d = some (.frz o (.dK kvs)) ∧ kvs.length ≤ i⟩
/-- .. of tuple keys: the key's own tuple -/
def Itkt (d : Addr) (o : Obj) (kvs : List (List Key × V)) : It :=
  ⟨fun i H => H d = some (.frz o (.dT kvs)) ∧ i < kvs.length, fun i H x H' => H' = H ∧ ∃ (k : List Key) (v : V) (q : Addr), kvs[i]? = some (k, v) ∧ x = .ref q ∧ H q = some (.tup (k.map kV)), fun i H => H d = some (.frz o (.dT kvs)) ∧ kvs.length ≤ i⟩
/-- the values -/
def Itd (d : Addr) (o : Obj) (kvs : List (Key × V)) : It :=
  ⟨fun i H => H d = some (.frz o (.dK kvs)) ∧ i < kvs.length, fun i H x H' => H' = H ∧ ∃ k, kvs[i]? = some (k, x), fun i H => H d = some (.frz o (.dK kvs)) ∧ kvs.length ≤ i⟩
/-- the pairs, each a new tuple -/
def Iti (d : Addr) (o : Obj) (kvs : List (Key × V)) : It :=
  ⟨fun i H => H d = some (.frz o (.dK kvs)) ∧ i < kvs.length, fun i H x H' => ∃ T k v, kvs[i]? = some (k, v) ∧ x = .ref T ∧ H T = none ∧ H' = upd H T (.tup [kV k, v]), fun i H => H d = some (.frz o (.dK kvs)) ∧ kvs.length ≤ i⟩
section
variable {P : Program} {w : World} {K : PySem.W.Frag} {tg : Expr} {d : Addr} {o : Obj} {es : Array DictEntry} {ep : Nat}
end

/-! ### for k in d, d.keys(), d.values(), d.items() -/
/-- the dict is locked (tLock, or by the caller) -/
def iKeys (td : TE) : TI := fun σ H R => td σ H fun x H1 => ∃ d o, x = .ref d ∧ ((∃ kvs, H1 d = some (.frz o (.dK kvs)) ∧ R (Itk d o kvs) H1) ∨ ∃ kvs, H1 d = some (.frz o (.dT kvs)) ∧ R (Itkt d o kvs) H1)
def iVals (td : TE) : TI := fun σ H R => td σ H fun x H1 => ∃ d o kvs, x = .ref d ∧ H1 d = some (.frz o (.dK kvs)) ∧ R (Itd d o kvs) H1
def iItems (td : TE) : TI := fun σ H R => td σ H fun x H1 => ∃ d o kvs, x = .ref d ∧ H1 d = some (.frz o (.dK kvs)) ∧ R (Iti d o kvs) H1
def iKeysM (td : TE) : TI := fun σ H R => td σ H fun x H1 => ∃ d o kvs, x = .ref d ∧ H1 d = some (.frz o (.dK kvs)) ∧ R (Itk d o kvs) H1
section
variable {X : Cx} {tg e : Expr} {td : TE} {apos cpos : Pos}
end

/-! ### enumerate(list) -/
/-- the list at a as it stands at each turn, each item in a new pair -/
def Ite (K : PySem.W.Frag) (a : Addr) : It :=
  ⟨fun i H => ∃ (xs : List V) (x : V), SqL K H a xs ∧ xs[i]? = some x, fun i H v H' => ∃ T x, v = .ref T ∧ H T = none ∧ H' = upd H T (.tup [.int (i : Nat), x]) ∧ ∀ xs, SqL K H a xs → xs[i]? = some x, fun i H => ∃ xs : List V, SqL K H a xs ∧ xs.length ≤ i⟩
theorem turn_enum {P : Program} {w : World} {K : PySem.W.Frag} {elts : List Expr} {kk : Nat} {tpos : Pos} (a e it : Addr) :
    Turn P w K (.Tuple elts kk tpos) (Ite K a) [e, it] e (fun i h => (∃ old, IsEnum h e it ((i : Nat) : Int) old) ∧ h.IsListIter it a i ∧ e ≠ it) where
  mem := by simp
  obj := fun i h st b hb => by
    obtain ⟨⟨old, he⟩, ⟨o, ho, hc, hd⟩, _⟩ := st
    have e' : b = e ∨ b = it := by simpa using hb
    rcases e' with z | z
    · rw [z]; exact ⟨_, he, fun v q => nomatch q⟩
    · rw [z]; exact ⟨o, ho, fun v q => by rw [hd] at q; cases q⟩
  keep := fun i h h' st k => let ⟨⟨old, he⟩, hi, hne⟩ := st; ⟨⟨old, k e (by simp) _ he⟩, hi.at fun o q => k it (by simp) o q, hne⟩
  item := by
    intro X hP hw hK hc i pins s σ H E I hf st hg
    subst hP hw hK
    obtain ⟨⟨old, he⟩, hit, hne⟩ := st
    obtain ⟨xs, x, hq, hx⟩ := hg
    obtain ⟨its, rv, p, hz⟩ := I.list hq
    obtain ⟨u, hu, ru⟩ := rv.get hx
    have hel : e < s.heap.objs.size := Heap.lt_size he
    have hil : it < s.heap.objs.size := by obtain ⟨_, q, _⟩ := hit; exact Heap.lt_size q
    refine wpAny_pyNext_enum_item he hit p.isList (x := u) (by simpa using hu) hne fun h' ho hit' hT hsz hk => ?_
    refine ⟨_, rfl, wpAny_letOwnedTupleGo_enum (s := { s with heap := h', toks := s.toks + 1 }) ho fun h'' he' sb => ?_⟩
    have hT2 : h''.get? s.heap.objs.size = some { cls := .type "tuple", data := .seq #[.int i s.toks, u] } := (sb.2 _ (Nat.ne_of_gt hel)).trans hT
    have new : ObjOk X.prog X.w (upd H s.heap.objs.size (.tup [.int (i : Nat), x])) h'' s.heap.objs.size (.tup [.int (i : Nat), x]) :=
      ⟨by show 2 ≤ sizeLine; decide, [.int i s.toks, u], .cons ⟨_, rfl⟩ (.cons ru .nil), ⟨_, hT2, rfl, _, rfl⟩⟩
    have I1 : Inv X pins σ (upd H s.heap.objs.size (.tup [.int (i : Nat), x])) { s with heap := h'', toks := s.toks + 1 } :=
      I.turnedNew (ch := [e, it]) (fun b ob hb q => (sb.2 b (fun z => hb (by simp [z]))).trans (hk b ob (fun z => hb (by simp [z])) (fun z => hb (by simp [z])) q)) hf (Nat.le_refl _) new
    refine ⟨.ref s.heap.objs.size, _, I1, rfl, ⟨_, x, rfl, I.hok.fresh (Nat.le_refl _), rfl, fun ys hy => by rw [I.list_inj hy hq]; exact hx⟩, ⟨⟨u, ?_⟩, hit'.at fun o q => (sb.2 it (Ne.symm hne)).trans q, hne⟩, fun b hb => ?_⟩
    · have e1 : ((i + 1 : Nat) : Int) = (i : Int) + 1 := by omega
      rw [e1]; exact he'
    · have hb' : b < s.heap.objs.size := by
        have e' : b = e ∨ b = it := by simpa using hb
        rcases e' with z | z
        · rw [z]; exact hel
        · rw [z]; exact hil
      rw [upd_ne (Nat.ne_of_lt hb')]
      exact (hf b hb).1
  done := by
    intro X hP hw hK hc i pins s σ H E I hf st hg
    subst hP hw hK
    obtain ⟨⟨old, he⟩, hit, hne⟩ := st
    obtain ⟨xs, hq, hx⟩ := hg
    obtain ⟨its, rv, p, hz⟩ := I.list hq
    obtain ⟨f0, f1, f2, f3, f4, f5⟩ := hf it (by simp)
    have hl := rv.length
    exact wpAny_pyNext_enum_end (I.ok.hd hc) he hit p.isList (by simp; omega) fun h' eb => ⟨rfl, I.turned (t' := s.toks) (fun b o hb q => eb b o hb q) f0 f1 f3 f4 f5⟩
  self := fun A i s Q E st h => let ⟨⟨_, he⟩, _⟩ := st; wpAny_pyIter_enum he h
def iEnum (K : PySem.W.Frag) (ta : TA) : TI := fun σ H R => ta σ H fun vs H1 => ∃ a xs, vs = [.ref a] ∧ SqL K H1 a xs ∧ R (Ite K a) H1
theorem pi_enum {X : Cx} {e : Expr} {ta : TA} {p pos tpos : Pos} {elts : List Expr} {kk : Nat} (hg : Gl X "enumerate") (hm : X.mg "enumerate" = none) (ha : PA X [e] ta) (hs : starEach [e] X.env = [(false, eval e X.env)] := by rfl) :
    PI X (.Tuple elts kk tpos) (.Call (.Name "enumerate" p) [e] [] pos) (iEnum X.K ta) := by
  intro pins s σ H R I h
  refine Call_ (ld_blt I hg hm boot_enumerate (PyProof.Rows.callWith_type1 (thn (ha pos pins s σ H _ I h) fun us s1 ⟨vs, H1, I1, r1, q1⟩ => ?_) hs rfl))
  obtain ⟨a, xs, ex, hq, q⟩ := q1
  subst ex
  cases r1 with
  | cons r rr =>
    cases rr
    cases r
    obtain ⟨its, rv, p', hz⟩ := I1.list hq
    refine call_enumerate_list p'.isList fun h' he hit hsz hk => wpAny_pyIter_enum he ?_
    have I2 : Inv X pins σ H1 { s1 with heap := h' } := I1.kept (t' := s1.toks) hk
    refine ⟨s1.heap.objs.size + 1, [s1.heap.objs.size + 1, s1.heap.objs.size], _, _, H1, rfl, I2, turn_enum a (s1.heap.objs.size + 1) s1.heap.objs.size, ⟨⟨.none, he⟩, hit, Nat.succ_ne_self _⟩, fun b hb => ?_, q⟩
    have e' : b = s1.heap.objs.size + 1 ∨ b = s1.heap.objs.size := by simpa using hb
    have hle : s1.heap.objs.size ≤ b := by
      rcases e' with z | z
      · rw [z]; exact Nat.le_add_right _ _
      · rw [z]; exact Nat.le_refl _
    exact I1.fpOk hle (I1.hok.fresh hle)
/-! ### zip(list, list) -/
theorem boot_zip5 : bootBuiltins "zip" = some (.type "zip") := by decide +kernel
/-- the lists at a and b as they stand at each turn, the items in new pairs -/
def Itz (K : PySem.W.Frag) (a b : Addr) : It :=
  ⟨fun i H => ∃ (xs ys : List V) (x y : V), SqL K H a xs ∧ SqL K H b ys ∧ xs[i]? = some x ∧ ys[i]? = some y,
    fun i H v H' => ∃ T x y, v = .ref T ∧ H T = none ∧ H' = upd H T (.tup [x, y]) ∧ (∀ xs, SqL K H a xs → xs[i]? = some x) ∧ ∀ ys, SqL K H b ys → ys[i]? = some y,
    fun i H => ∃ xs ys : List V, SqL K H a xs ∧ SqL K H b ys ∧ (xs.length ≤ i ∨ ys.length ≤ i)⟩
theorem turn_zip {P : Program} {w : World} {K : PySem.W.Frag} {elts : List Expr} {kk : Nat} {tpos : Pos} {a b z TI TO i1 i2 : Addr} (D : ZipApart z TI TO i1 i2 a b) :
    Turn P w K (.Tuple elts kk tpos) (Itz K a b) [z, TI, TO, i1, i2] z (fun i h => IsZip h z TI TO .none ∧ IsPair h TI (.ref i1) (.ref i2) ∧ (∃ x y, IsPair h TO x y) ∧ h.IsListIter i1 a i ∧ h.IsListIter i2 b i) where
  mem := by simp
  obj := fun i h st c hc => by
    obtain ⟨hz, hTI, ⟨x, y, hTO⟩, ⟨o1, e1, _, d1⟩, ⟨o2, e2, _, d2⟩⟩ := st
    have e' : c = z ∨ c = TI ∨ c = TO ∨ c = i1 ∨ c = i2 := by simpa using hc
    rcases e' with q | q | q | q | q
    · rw [q]; exact ⟨_, hz, fun v q => nomatch q⟩
    · rw [q]; exact ⟨_, hTI, fun v q => nomatch q⟩
    · rw [q]; exact ⟨_, hTO, fun v q => nomatch q⟩
    · rw [q]; exact ⟨o1, e1, fun v q => by rw [d1] at q; cases q⟩
    · rw [q]; exact ⟨o2, e2, fun v q => by rw [d2] at q; cases q⟩
  keep := fun i h h' st k => by
    obtain ⟨hz, hTI, ⟨x, y, hTO⟩, h1, h2⟩ := st
    exact ⟨k z (by simp) _ hz, k TI (by simp) _ hTI, ⟨x, y, k TO (by simp) _ hTO⟩, h1.at fun o q => k i1 (by simp) o q, h2.at fun o q => k i2 (by simp) o q⟩
  item := by
    intro X hP hw hK hc i pins s σ H E I hf st hg
    subst hP hw hK
    obtain ⟨hz, hTI, ⟨x0, y0, hTO⟩, h1, h2⟩ := st
    obtain ⟨xs, ys, x, y, hqx, hqy, hx, hy⟩ := hg
    obtain ⟨its, rv, p, _⟩ := I.list hqx
    obtain ⟨its2, rv2, p2, _⟩ := I.list hqy
    obtain ⟨u, hu, ru⟩ := rv.get hx
    obtain ⟨u2, hu2, ru2⟩ := rv2.get hy
    have hzl : z < s.heap.objs.size := Heap.lt_size hz
    refine wpAny_pyNext_zip_item D hz hTI hTO h1 h2 p.isList p2.isList (x := u) (y := u2) (by simpa using hu) (by simpa using hu2) fun h' z' TO' h1' h2' hT hsz hk => ?_
    refine ⟨_, rfl, wpAny_letOwnedTupleGo_zip (s := { s with heap := h' }) z' fun h'' z'' sb => ?_⟩
    have hT2 : h''.get? s.heap.objs.size = some { cls := .type "tuple", data := .seq #[u, u2] } := (sb.2 _ (Nat.ne_of_gt hzl)).trans hT
    have new : ObjOk X.prog X.w (upd H s.heap.objs.size (.tup [x, y])) h'' s.heap.objs.size (.tup [x, y]) :=
      ⟨by show 2 ≤ sizeLine; decide, [u, u2], .cons ru (.cons ru2 .nil), ⟨_, hT2, rfl, _, rfl⟩⟩
    have I1 : Inv X pins σ (upd H s.heap.objs.size (.tup [x, y])) { s with heap := h'' } :=
      I.turnedNew (t' := s.toks) (ch := [z, TI, TO, i1, i2]) (fun c o hb q => (sb.2 c (fun q' => hb (by simp [q']))).trans (hk c o (fun q' => hb (by simp [q'])) (fun q' => hb (by simp [q'])) (fun q' => hb (by simp [q'])) (fun q' => hb (by simp [q'])) q)) hf (Nat.le_refl _) new
    refine ⟨.ref s.heap.objs.size, _, I1, rfl, ⟨_, x, y, rfl, I.hok.fresh (Nat.le_refl _), rfl, fun l hl => by rw [I.list_inj hl hqx]; exact hx, fun l hl => by rw [I.list_inj hl hqy]; exact hy⟩, ⟨z'', ?_, ⟨u, u2, ?_⟩, ?_, ?_⟩, fun c hcm => ?_⟩
    · exact (sb.2 _ D.TIz).trans (hk _ _ D.TIz D.TITO D.TIi1 D.TIi2 hTI)
    · exact (sb.2 _ D.TOz).trans TO'
    · exact h1'.at fun o q => (sb.2 _ D.i1z).trans q
    · exact h2'.at fun o q => (sb.2 _ D.i2z).trans q
    · have hlt : c < s.heap.objs.size := by
        have e' : c = z ∨ c = TI ∨ c = TO ∨ c = i1 ∨ c = i2 := by simpa using hcm
        rcases e' with q | q | q | q | q
        · rw [q]; exact hzl
        · rw [q]; exact Heap.lt_size hTI
        · rw [q]; exact Heap.lt_size hTO
        · rw [q]; obtain ⟨_, e1, _⟩ := h1; exact Heap.lt_size e1
        · rw [q]; obtain ⟨_, e2, _⟩ := h2; exact Heap.lt_size e2
      rw [upd_ne (Nat.ne_of_lt hlt)]
      exact (hf c hcm).1
  done := by
    intro X hP hw hK hc i pins s σ H E I hf st hg
    subst hP hw hK
    obtain ⟨hz, hTI, ⟨x0, y0, hTO⟩, h1, h2⟩ := st
    obtain ⟨xs, ys, hqx, hqy, hend⟩ := hg
    obtain ⟨its, rv, p, _⟩ := I.list hqx
    obtain ⟨its2, rv2, p2, _⟩ := I.list hqy
    have l1 := rv.length
    have l2 := rv2.length
    have he : its.toArray[i]? = none ∨ its2.toArray[i]? = none := by
      rcases hend with q | q
      · exact .inl (by simp; omega)
      · exact .inr (by simp; omega)
    exact wpAny_pyNext_zip_end (I.ok.hd hc) D hz hTI hTO h1 h2 p.isList p2.isList he fun h' hk => ⟨rfl, I.turnedL (t' := s.toks) (ch := [z, TI, TO, i1, i2]) (fun c o hb q =>
      hk c o (fun q' => hb (by simp [q'])) (fun q' => hb (by simp [q'])) (fun q' => hb (by simp [q'])) (fun q' => hb (by simp [q'])) q) hf⟩
  self := fun A i s Q E st h => wpAny_pyIter_zip st.1 h
def iZip (K : PySem.W.Frag) (ta : TA) : TI := fun σ H R => ta σ H fun vs H1 => ∃ a b xs ys, vs = [.ref a, .ref b] ∧ SqL K H1 a xs ∧ SqL K H1 b ys ∧ R (Itz K a b) H1
theorem pi_zip {X : Cx} {e e2 : Expr} {ta : TA} {p pos tpos : Pos} {elts : List Expr} {kk : Nat} (hg : Gl X "zip") (hm : X.mg "zip" = none) (ha : PA X [e, e2] ta)
    (hs : starEach [e, e2] X.env = (false, eval e X.env) :: starEach [e2] X.env := by rfl) (hpl : (backTo pos (starEach [e2] X.env)).any (·.1) = false := by rfl) :
    PI X (.Tuple elts kk tpos) (.Call (.Name "zip" p) [e, e2] [] pos) (iZip X.K ta) := by
  intro pins s σ H R I h
  refine Call_ (ld_blt I hg hm boot_zip5 (PyProof.Rows.callWith_type1 (thn (ha pos pins s σ H _ I h) fun us s1 ⟨vs, H1, I1, r1, q1⟩ => ?_) hs hpl))
  obtain ⟨a, b, xs, ys, ex, hqx, hqy, q⟩ := q1
  subst ex
  cases r1 with
  | cons r rr =>
    cases rr with
    | cons r' rr =>
      cases rr
      cases r
      cases r'
      obtain ⟨its, rv, p1, _⟩ := I1.list hqx
      obtain ⟨its2, rv2, p2, _⟩ := I1.list hqy
      have la : a < s1.heap.objs.size := p1.lt
      have lb : b < s1.heap.objs.size := p2.lt
      refine call_zip_2 p1.isList p2.isList fun h' hz hTI hTO h1 h2 hsz hk => wpAny_pyIter_zip hz ?_
      have I2 : Inv X pins σ H1 { s1 with heap := h' } := I1.kept (t' := s1.toks) hk
      refine ⟨s1.heap.objs.size + 4, [s1.heap.objs.size + 4, s1.heap.objs.size + 2, s1.heap.objs.size + 3, s1.heap.objs.size, s1.heap.objs.size + 1], _, _, H1, rfl, I2, turn_zip (PySem.W.ktu_apart s1.heap.objs.size a b la lb), ⟨hz, hTI, ⟨_, _, hTO⟩, h1, h2⟩, fun c hcm => ?_, q⟩
      have e' : c = s1.heap.objs.size + 4 ∨ c = s1.heap.objs.size + 2 ∨ c = s1.heap.objs.size + 3 ∨ c = s1.heap.objs.size ∨ c = s1.heap.objs.size + 1 := by simpa using hcm
      have hle : s1.heap.objs.size ≤ c := by
        rcases e' with z | z | z | z | z
        · rw [z]; exact Nat.le_add_right _ _
        · rw [z]; exact Nat.le_add_right _ _
        · rw [z]; exact Nat.le_add_right _ _
        · rw [z]; exact Nat.le_refl _
        · rw [z]; exact Nat.le_add_right _ _
      exact I1.fpOk hle (I1.hok.fresh hle)
end L2

section 
namespace Bits
open PySem PyProof.Rows








end Bits
end 

section 
namespace TL
open PySem PySem.Builtin PySem.Builtin.Str PySem.StrLaws

abbrev tl (x : Str) : List Nat := x.cps.toList

/-! ### the list functions -/
/-- S stands at the head of l -/
def pre (S l : List Nat) : Bool := l.take S.length == S
/-- l cut at each S from the left; k signs are still to be passed over -/
def spl (S : List Nat) : Nat → List Nat → List Nat → List (List Nat)
  | _, acc, [] => [acc]
  | 0, acc, c :: r => if pre S (c :: r) = true then acc :: spl S (S.length - 1) [] r else spl S 0 (acc ++ [c]) r
  | k + 1, acc, _ :: r => spl S k acc r
/-- what stands before the first S, and behind it -/
def par (S : List Nat) : List Nat → List Nat → Option (List Nat × List Nat)
  | _, [] => none
  | acc, c :: r => if pre S (c :: r) = true then some (acc, (c :: r).drop S.length) else par S (acc ++ [c]) r




/-! ### the model's split and partition are these -/




/-! ### computing spl and par -/

/-- joined lists -/
def joinL (S : List Nat) : List (List Nat) → List Nat
  | [] => []
  | [p] => p
  | p :: q :: r => p ++ (S ++ joinL S (q :: r))

/-! ### digits -/
/-- the signs of a number -/
def numL (n : Nat) : List Nat := (Nat.toDigits 10 n).map Char.toNat

/-! ### words: x.split() -/
def wstep (st : List (List Nat) × List Nat) (c : Nat) : List (List Nat) × List Nat :=
  if Unicode.isSpace c = true then (if st.2 = [] then st else (st.1 ++ [st.2], [])) else (st.1, st.2 ++ [c])
def wfin (st : List (List Nat) × List Nat) : List (List Nat) := if st.2 = [] then st.1 else st.1 ++ [st.2]
end TL
end 

namespace L2
open PySem PySem.Spec PyProof.Rows



/-- a new list of texts, tracked -/
def rNewStrs (ys : List Str) : Hp → VK → Prop := fun H Q => ∀ p, H p = none → Q (.ref p) (upd H p (.lst (ys.map V.str)))

section
variable {X : Cx} {pins : List (Addr × Obj)} {σ : St} {H : Hp} {s : Shared} {Q : VK}
end

section
variable {X : Cx}





/-! ### of a text alone -/

/-! ### of a text and a text -/

end

section
variable {X : Cx} {o e : Expr} {to te : TE}
def tM0 (r : V → List V → Hp → VK → Prop) (to : TE) : TE := fun σ H Q => to σ H fun x H1 => (∃ a, x = .str a) ∧ r x [] H1 Q
def tM1 (r : V → List V → Hp → VK → Prop) (to te : TE) : TE := fun σ H Q => to σ H fun x H1 => (∃ a, x = .str a) ∧ te σ H1 fun y H2 => r x [y] H2 Q

end
end L2

namespace L2
open PySem PySem.Spec PyProof.Rows

section
variable {X : Cx}
end

/-! ### slices of a text -/

/-- a part, clipped, as the text's slice reckons it -/
def clipS (n d : Nat) : Option Int → Int
  | none => (d : Int)
  | some i => max 0 (min (if i < 0 then i + (n : Int) else i) (n : Int))

/-- z[lo:hi] -/
def cutS (z : Str) (lo hi : Option Int) : Str :=
  ⟨((z.cps.toList.drop (HT.sIx z.length 0 lo)).take (HT.sIx z.length z.length hi - HT.sIx z.length 0 lo)).toArray⟩
def rSlS : V → Option Int → Option Int → Hp → VK → Prop := fun x lo hi H Q => ∃ z, x = .str z ∧ z.length ≤ sizeLine ∧ Q (.str (cutS z lo hi)) H
end L2

namespace Att
open PySem PySem.W PySem.Calls PyProof.Rows

/-! ### the script -/



/-! ### the attachment: holds_open's last premise (the goal 'hc' behind k_head) from a wpAny of the law's body -/



/-! ### rules over ANY heap (no ledger) from facts about the written part K: the library's own take a ledger (News) for what they write -/
section
variable {prog : Program} {w : World} {A : Around} {E : Value → Shared → Prop} {s : Shared} {K : Frag}





/-! the whole heap as the ledger: makes every rule that writes through a ledger a rule over any heap -/
def noObjs (h : Heap) : Heap := { h with objs := #[] }
def ledger (h : Heap) (L d : Addr) : List (Addr × Obj) := (List.range h.objs.size).filterMap fun a => if a = L ∨ a = d then none else (h.get? a).map fun o => (a, o)

end
end Att

namespace L2
open PySem PySem.Spec PyProof.Rows


/-- nothing is tracked but the script, known to the object (or it is an object of the module) -/
def Only (H : Hp) : Prop := ∀ b, H b = none ∨ ∃ o xs, H b = some (.frz o (.lst xs))

end L2

namespace L2
open PySem PySem.Spec PyProof.Rows

abbrev KOf {K : PySem.W.Frag} {h : Heap} (_ : K.In h) : PySem.W.Frag := K

end L2

/- THE LAST THEOREM (shape; LID, My.* are yours):
   My.Adr: a structure of the addresses that your layer names (classes, functions); My.Txt K t: a structure (Prop) of the equations over K;
   My.txt_mk : {K} {implicit addresses ..} (e1 : nsIn K mainGlobals "law" = some (some (.ref f))) (e2 : K.lookup f = some ⟨oc, od, .func (fnOf "law" "law" params body scope dV kV doc pm an cdv ct), sl⟩) (e3 : codeIn K cdv "law" = true) .. : ∃ t, My.Txt K t

set_option maxRecDepth 100000 in
set_option maxHeartbeats 0 in
theorem PySem.Challenge.cw_LID_holds : PySem.Challenge.rw_LID.Holds := by
  w_on; o_law; k_head; (case hw => w_witness2)
  k_fill
  refine L2.walk_of (l := PySem.Challenge.rw_LID) (n := 63) (k := 40) (x := "script") (CX := fun w => ..) (sp := fun _ => My.sp_law) rfl (by decide) rfl ⟨rfl, by decide, by decide⟩ (fun w h Y => PySem.W.kIn_of Y) ?F ?S ?C
  case F =>
    intro w mg fa h KX G hmg
    have T : ∃ t, My.Txt (L2.KOf KX) t := by
      dsimp only [L2.KOf]                          -- K must stand as «<heap const> w.params» for k_is
      refine' My.txt_mk ?e1 ?e2 ?e3 ..
      (case e1 => PySem.W.k_is)                    -- in the order: a name -> its address -> its object -> its parts
      (case e2 => PySem.W.k_is)
      ..
    obtain ⟨t, T⟩ := T
    have e0 := hmg.symm.trans (PySem.W.mg_of KX G T.law)
    cases e0                                       -- fa is the law's own address
    exact ⟨_, fun s u => .of_eq rfl, fun base kb nb => My.law_fn T kb nb⟩     -- if «.of_eq rfl» comes too early: refine' ⟨_, ?b, fun base kb nb => My.law_fn T kb nb⟩; exact fun s u => .of_eq rfl
  case S => exact fun w H a ns hl hO hS => ..
  case C => exact ..
(the tactic k_is has no namespace: write k_is) -/

/-! SHORT WORDS over the layer: a def of the text, its body, what a loop and a test want. -/
namespace L2
open PySem PySem.Spec PyProof.Rows

/-! ### the text by places -/
/-- the j-th statement of a class's body -/
def inClass (s : Stmt) (j : Nat) : Stmt := match s with
  | .ClassDef _ _ _ body _ _ _ _ _ _ _ => body.getD j (.Pass ⟨0, 0, 0, 0⟩)
  | _ => .Pass ⟨0, 0, 0, 0⟩
def defArgs (s : Stmt) : Arguments := match s with
  | .FunctionDef _ a _ _ _ _ _ _ _ _ => a
  | _ => { posonlyargs := [], args := [], vararg := none, kwonlyargs := [], kw_defaults := [], kwarg := none, defaults := [] }
def defBody (s : Stmt) : List Stmt := match s with
  | .FunctionDef _ _ b _ _ _ _ _ _ _ => b
  | _ => []
def defScope (s : Stmt) : Scope := match s with
  | .FunctionDef _ _ _ _ _ _ sc _ _ _ => sc
  | _ => { kind := .function, names := [], isGenerator := false, isCoroutine := false }

/-! ### no exception leaves a def -/
abbrev CX0 : CXT := fun _ _ _ _ _ _ => False
abbrev E0 : XK := fun _ _ _ => False
theorem pass0 {X : Cx} : Passes CX0 X E0 := fun _ _ _ _ _ _ _ h => h.elim

/-! ### a def (or method) of the text as it stands behind the top -/
structure Fun (K : PySem.W.Frag) (x qual : Str) (st : Stmt) (f : Addr) (fd : FuncData) : Prop where
  ex : ∃ (oc : Value) (od : Option Addr) (kV doc pm : Value) (an : Option Addr) (cdv ct : Value) (osl : Array (Option Value)),
    fd = PySem.W.fnOf x qual (defArgs st) (defBody st) (defScope st) .none kV doc pm an cdv ct ∧ K.lookup f = some ⟨oc, od, .func fd, osl⟩ ∧ PySem.W.codeIn K cdv qual = true
  kp : PySem.W.keepIn K (.ref f) = true
section
variable {P : Program} {w : World} {K : PySem.W.Frag} {mg : Str → Option Value} {base : Heap}
/-- THE RULE for a def: its body as a term of rules, and the reading of that term -/
theorem Fun.ok {x qual : Str} {st : Stmt} {f : Addr} {fd : FuncData} {N ps : List Str} {k : Nat} {sp : Sp} (F : Fun K x qual st f fd) (S : FnScope N ps (defScope st)) (len : ∀ vs H Q E, sp vs H Q E → vs.length = ps.length)
    (hbody : ∀ (cdv : Value) (A : Around) (outer : List Env) (s : Shared) (H : Hp) (vs : List V) (Q : VK) (E : XK), Room k (A.deeper (envOfC qual (defScope st) s.heap.objs.size f cdv)) → sp vs H Q E →
      ∃ t, PSs (cxOf CX0 P w K mg base N qual (defScope st) f cdv A outer s H E).nox (defBody st) t ∧ t { nx := fun _ H' => Q .non H', rt := Q } (start N vs) H) : FnOk P w K mg base CX0 (k + 1) f fd ps sp := by
  obtain ⟨oc, od, kV, doc, pm, an, cdv, ct, osl, rfl, lk, hcd⟩ := F.ex
  refine fn_of lk hcd S len fun A outer s H vs Q E hr hsp => ?_
  obtain ⟨t, h, q⟩ := hbody cdv A outer s H vs Q E hr hsp
  exact ⟨t, h.nox, q⟩
theorem fun_mk {x qual : Str} {st : Stmt} {f : Addr} {oc : Value} {od an : Option Addr} {osl : Array (Option Value)} {kV doc pm cdv ct : Value} (l : K.lookup f = some ⟨oc, od, .func (PySem.W.fnOf x qual (defArgs st) (defBody st) (defScope st) .none kV doc pm an cdv ct), osl⟩)
    (c : PySem.W.codeIn K cdv qual = true) (k : PySem.W.keepIn K (.ref f) = true) : Fun K x qual st f (PySem.W.fnOf x qual (defArgs st) (defBody st) (defScope st) .none kV doc pm an cdv ct) := ⟨⟨oc, od, kV, doc, pm, an, cdv, ct, osl, rfl, l, c⟩, k⟩
end
theorem small1000 {n : Nat} (h : n ≤ 1000) : n < sizeLine := Nat.lt_of_le_of_lt h (by decide)

/-! ### expressions in short: the name that stands in the i-th slot -/
section
variable {X : Cx}
theorem pv (i : Nat) {x : Str} {pos : Pos} (hN : X.N[i]? = some x := by rfl) (hv : Vis X.env.scope x := by first | exact Or.inl rfl | exact Or.inr (Or.inl rfl) | exact Or.inr (Or.inr rfl)) (hd : (x == ("__debug__" : Str)) = false := by decide)
    (hcd : (x == ("__classdict__" : Str)) = false := by decide) : PE X (.Name x pos) (tVar i) := pe_var hN hv hd hcd
end

/-! ### tests -/
theorem iteF {A B : Prop} (h : B) : if false = true then A else B := by
  rw [if_neg Bool.false_ne_true]
  exact h
theorem iteT {A B : Prop} (h : A) : if true = true then A else B := by
  rw [if_pos rfl]
  exact h
theorem ite2 {c A B : Prop} [Decidable c] (h1 : c → A) (h2 : ¬ c → B) : if c then A else B := by
  by_cases h : c
  · rw [if_pos h]
    exact h1 h
  · rw [if_neg h]
    exact h2 h
theorem iteNS {c A B : Prop} [Decidable c] (hc : c) (h : B) : if (!decide c) = true then A else B := by
  rw [decide_eq_true hc]
  exact iteF h

/-! ### heaps -/
/-- all that was tracked is as it was -/
def Same (H H' : Hp) : Prop := ∀ b o, H b = some o → H' b = some o
theorem Same.refl (H : Hp) : Same H H := fun _ _ h => h
theorem Same.trans {H H1 H2 : Hp} (a : Same H H1) (b : Same H1 H2) : Same H H2 := fun c o h => b c o (a c o h)
theorem Same.seq {K : PySem.W.Frag} {H H' : Hp} {a : Addr} {xs : List V} (e : Same H H') (h : SqL K H a xs) : SqL K H' a xs := by
  rcases h with (h | ⟨o, h⟩) | h
  · exact .inl (.inl (e _ _ h))
  · exact .inl (.inr ⟨o, e _ _ h⟩)
  · exact .inr h

/-! ### a dict's pairs: keys that differ -/
section
variable {κ : Type} [DecidableEq κ]
end
/-! ### lists -/
theorem at_of {xs : List V} {z : Int} {j : Nat} {v : V} (e : z = (j : Int)) (h : xs[j]? = some v) : atI xs z = some v := by
  rw [e]
  exact atI_nat h
end L2

section
set_option Elab.async false
set_option linter.all false
set_option maxRecDepth 100000
set_option maxHeartbeats 2000000
namespace L2
open PySem PySem.Spec PyProof.Rows
open PySem.W (WData Codec OpenSpec Well WellAll ReadsW ReadsAllW)
/-! ### an answer as data -/
mutual
/-- x stands for the datum d, lists and tuples all the way -/
inductive Dw (K : PySem.W.Frag) (H : Hp) : V → WData → Prop
  | non : Dw K H .non .none
  | bl (b : Bool) : Dw K H (.bl b) (.bool b)
  | int (i : Int) : Dw K H (.int i) (.int i)
  | str (x : Str) : Dw K H (.str x) (.str x)
  | byt (b : Array UInt8) : Dw K H (.byt b) (.bytes b.toList)
  | lst {a : Addr} {xs : List V} {ds : List WData} : SqL K H a xs → DwAll K H xs ds → Dw K H (.ref a) (.list ds)
  | tup {a : Addr} {xs : List V} {ds : List WData} : SqT K H a xs → DwAll K H xs ds → Dw K H (.ref a) (.tuple ds)
inductive DwAll (K : PySem.W.Frag) (H : Hp) : List V → List WData → Prop
  | nil : DwAll K H [] []
  | cons {v : V} {vs : List V} {d : WData} {ds : List WData} : Dw K H v d → DwAll K H vs ds → DwAll K H (v :: vs) (d :: ds)
end
theorem dw_ints {K : PySem.W.Frag} {H : Hp} : ∀ ns : List Int, DwAll K H (ns.map V.int) (ns.map WData.int)
  | [] => .nil
  | n :: r => .cons (.int n) (dw_ints r)
theorem ints_dw {K : PySem.W.Frag} {H : Hp} : ∀ (ns : List Int) (xs : List V), DwAll K H xs (ns.map WData.int) → xs = ns.map V.int
  | [], xs, h => by
    cases h
    rfl
  | n :: r, xs, h => by
    cases h with
    | cons h1 h2 =>
      cases h1
      rw [ints_dw r _ h2] <;> rfl
section
variable {P : Program} {w : World} {K : PySem.W.Frag} {H : Hp} {h : Heap} {R : PySem.W.WRecords} {cl : Str → Option Addr}
theorem sqL_at {a : Addr} {xs : List V} (hok : HOk P w H h) (KX : K.In h) (q : SqL K H a xs) : ∃ (its : List Value) (o : Obj) (n : Nat), Vals xs its ∧ h.get? a = some o ∧ o.cls = .type "list" ∧ o.data = .seq its.toArray n := by
  rcases q with q | ⟨o, its, n, e, hc, _, hd, _, hv⟩
  · obtain ⟨_, its, n, hv, e⟩ := (show ObjOk P w H h a (.lst xs) from q.ok hok)
    exact ⟨its, _, n, hv, e, rfl, rfl⟩
  · exact ⟨its.toList, o, n, hv, KX _ _ e, hc, by simp [hd]⟩
theorem sqT_at {a : Addr} {xs : List V} (hok : HOk P w H h) (KX : K.In h) (q : SqT K H a xs) : ∃ (its : List Value) (o : Obj) (n : Nat), Vals xs its ∧ h.get? a = some o ∧ o.cls = .type "tuple" ∧ o.data = .seq its.toArray n := by
  rcases q with q | ⟨o, its, n, e, hc, hd, _, hv⟩
  · obtain ⟨_, its, hv, o, e, hc, n, hd⟩ := (show ObjOk P w H h a (.tup xs) from q.ok hok)
    exact ⟨its, o, n, hv, e, hc, hd⟩
  · exact ⟨its.toList, o, n, hv, KX _ _ e, hc, by simp [hd]⟩
mutual
theorem Dw.reads (hok : HOk P w H h) (KX : K.In h) : ∀ (d : WData) (v : V) (u : Value), Dw K H v d → RelV v u → ∃ as, ReadsW R cl h u d as
  | .none, _, _, x, r => by
    cases x
    cases r
    exact ⟨_, ReadsW.none⟩
  | .bool b, _, _, x, r => by
    cases x
    cases r
    exact ⟨_, ReadsW.bool b⟩
  | .int i, _, _, x, r => by
    cases x
    obtain ⟨t, rfl⟩ := r
    exact ⟨_, ReadsW.int i t⟩
  | .str s, _, _, x, r => by
    cases x
    obtain ⟨t, rfl⟩ := r
    exact ⟨_, ReadsW.str s t⟩
  | .bytes b, _, _, x, r => by
    cases x
    obtain ⟨t, rfl⟩ := r
    exact ⟨_, ReadsW.bytes _ t⟩
  | .list ds, _, _, x, r => by
    cases x with
    | lst hs ha =>
      cases r
      obtain ⟨its, o, n, rv, ho, hc, hd⟩ := sqL_at hok KX hs
      obtain ⟨as, hr⟩ := Dw.readsAll hok KX ds _ its ha rv
      exact ⟨_, ReadsW.list ho hc hd hr⟩
  | .tuple ds, _, _, x, r => by
    cases x with
    | tup hs ha =>
      cases r
      obtain ⟨its, o, n, rv, ho, hc, hd⟩ := sqT_at hok KX hs
      obtain ⟨as, hr⟩ := Dw.readsAll hok KX ds _ its ha rv
      exact ⟨_, ReadsW.tuple ho hc hd hr⟩
  | .float _, _, _, x, _ => by cases x
  | .dict _, _, _, x, _ => by cases x
  | .bytearray _, _, _, x, _ => by cases x
  | .set _, _, _, x, _ => by cases x
  | .frozenset _, _, _, x, _ => by cases x
  | .obj _ _, _, _, x, _ => by cases x
theorem Dw.readsAll (hok : HOk P w H h) (KX : K.In h) : ∀ (ds : List WData) (vs : List V) (us : List Value), DwAll K H vs ds → Vals vs us → ∃ as, ReadsAllW R cl h us ds as
  | [], _, _, x, r => by
    cases x
    cases r
    exact ⟨_, ReadsAllW.nil⟩
  | d :: ds, _, _, x, r => by
    cases x with
    | cons h1 h2 =>
      cases r with
      | cons r1 r2 =>
        obtain ⟨as, q1⟩ := Dw.reads hok KX d _ _ h1 r1
        obtain ⟨bs, q2⟩ := Dw.readsAll hok KX ds _ _ h2 r2
        exact ⟨_, ReadsAllW.cons q1 q2⟩
end
end
/-! ### the arguments -/
mutual
/-- data that a codec tells -/
def plW : WData → Bool
  | .none => true
  | .bool _ => true
  | .int _ => true
  | .str _ => true
  | .bytes _ => true
  | .list xs => plWs xs
  | .tuple xs => plWs xs
  | _ => false
def plWs : List WData → Bool
  | [] => true
  | x :: r => plW x && plWs r
end
theorem plWs_map {α : Type} {f : α → WData} (h : ∀ a, plW (f a) = true) : ∀ l : List α, plWs (l.map f) = true
  | [] => rfl
  | x :: r => by
    show (plW (f x) && plWs (r.map f)) = true
    rw [h x, plWs_map h r] <;> rfl
theorem pl_enc : ∀ (c : Codec) (a : c.denote), plW (c.enc a) = true
  | .unit, _ => rfl
  | .bool, _ => rfl
  | .int _ _, _ => rfl
  | .nat _ _, _ => rfl
  | .u8, _ => rfl
  | .bytes _ _, _ => rfl
  | .text _ _ _ _, _ => rfl
  | .list _ _ c, a => plWs_map (fun x => pl_enc c x) a
  | .pair c d, a => by
    show (plW (c.enc a.1) && (plW (d.enc a.2) && true)) = true
    rw [pl_enc c a.1, pl_enc d a.2] <;> rfl
  | .triple c d e, a => by
    show (plW (c.enc a.1) && (plW (d.enc a.2.1) && (plW (e.enc a.2.2) && true))) = true
    rw [pl_enc c a.1, pl_enc d a.2.1, pl_enc e a.2.2] <;> rfl
  | .option c, none => rfl
  | .option c, some x => pl_enc c x
theorem pl_encAll : ∀ (cs : List Codec) (a : Codec.denoteAll cs), plWs (Codec.encAll cs a) = true
  | [], _ => rfl
  | c :: cs, a => by
    show (plW (c.enc a.1) && plWs (Codec.encAll cs a.2)) = true
    rw [pl_enc c a.1, pl_encAll cs a.2] <;> rfl
theorem weight_mem : ∀ {xs : List WData} {d : WData}, d ∈ xs → d.weight ≤ WData.weightAll xs
  | [], d, h => absurd h (by simp)
  | x :: r, d, h => by
    show d.weight ≤ x.weight + 1 + WData.weightAll r
    rcases List.mem_cons.mp h with e | m
    · rw [e]
      omega
    · have z := weight_mem m
      omega
def toV : Value → V
  | .none => .non
  | .bool b => .bl b
  | .int i _ => .int i
  | .str x _ => .str x
  | .bytes b _ => .byt b
  | .ref a => .ref a
  | _ => .non
/-- a value of the arguments, its objects among A -/
def OkU (A : List Addr) : Value → Prop
  | .none => True
  | .bool _ => True
  | .int _ _ => True
  | .str _ _ => True
  | .bytes _ _ => True
  | .ref a => a ∈ A
  | _ => False
theorem OkU.mono {A B : List Addr} (h : ∀ a ∈ A, a ∈ B) : ∀ {u : Value}, OkU A u → OkU B u := fun {u} x => by
  cases u with
  | ref a => exact h a x
  | none => trivial
  | bool b => trivial
  | int i t => trivial
  | str s t => trivial
  | bytes b t => trivial
  | _ => exact False.elim x
theorem relV_toV {A : List Addr} {u : Value} (x : OkU A u) : RelV (toV u) u := by
  cases u with
  | ref a => rfl
  | none => rfl
  | bool b => rfl
  | int i t => exact ⟨t, rfl⟩
  | str s t => exact ⟨t, rfl⟩
  | bytes b t => exact ⟨t, rfl⟩
  | _ => exact False.elim x
theorem vals_toV {A : List Addr} : ∀ {vs : List Value}, (∀ u ∈ vs, OkU A u) → Vals (vs.map toV) vs
  | [], _ => .nil
  | u :: r, h => .cons (relV_toV (h u (List.mem_cons_self ..))) (vals_toV fun x hx => h x (List.mem_cons_of_mem _ hx))
/-- an object of the arguments -/
def ArgOb (h : Heap) (A : List Addr) (a : Addr) : Prop := ∃ vs : List Value, vs.length ≤ sizeLine ∧ (∀ u ∈ vs, OkU A u) ∧
  (h.get? a = some { cls := .type "list", data := .seq vs.toArray } ∨ h.get? a = some { cls := .type "tuple", data := .seq vs.toArray })
theorem ArgOb.mono {h : Heap} {A B : List Addr} {a : Addr} (k : ∀ a ∈ A, a ∈ B) (x : ArgOb h A a) : ArgOb h B a := by
  obtain ⟨vs, h1, h2, h3⟩ := x
  exact ⟨vs, h1, fun u hu => (h2 u hu).mono k, h3⟩
theorem wellAll_len {P : Params} {h : Heap} : ∀ {vs : List Value} {ds : List WData}, WellAll P h vs ds → vs.length = ds.length
  | _, _, .nil => rfl
  | _, _, .cons _ b => by
    show _ + 1 = _ + 1
    rw [wellAll_len b]
theorem well_list {P : Params} {h : Heap} {v : Value} {ds : List WData} (x : Well P h v (.list ds)) : ∃ (a : Addr) (vs : List Value), v = .ref a ∧ h.get? a = some { cls := .type "list", data := .seq vs.toArray } ∧ WellAll P h vs ds := by
  cases x with
  | list ho hall => exact ⟨_, _, rfl, ho, hall⟩
theorem well_tuple {P : Params} {h : Heap} {v : Value} {ds : List WData} (x : Well P h v (.tuple ds)) : ∃ (a : Addr) (vs : List Value), v = .ref a ∧ h.get? a = some { cls := .type "tuple", data := .seq vs.toArray } ∧ WellAll P h vs ds := by
  cases x with
  | tuple ho hall => exact ⟨_, _, rfl, ho, hall⟩
theorem well_cons {P : Params} {h : Heap} {us : List Value} {d : WData} {ds : List WData} (x : WellAll P h us (d :: ds)) : ∃ (v : Value) (vs : List Value), us = v :: vs ∧ Well P h v d ∧ WellAll P h vs ds := by
  cases x with
  | cons a b => exact ⟨_, _, rfl, a, b⟩
theorem line_of {n : Nat} (h : n ≤ 1048576) : n ≤ sizeLine := Nat.le_trans h (by decide)
section
variable {P : Params} {h : Heap}
mutual
theorem area_one : ∀ (d : WData) (v : Value), Well P h v d → plW d = true → d.weight ≤ 1048576 → ∃ A : List Addr, OkU A v ∧ ∀ a ∈ A, ArgOb h A a
  | .none, _, x, _, _ => by
    cases x
    exact ⟨[], trivial, fun a m => absurd m (by simp)⟩
  | .bool b, _, x, _, _ => by
    cases x
    exact ⟨[], trivial, fun a m => absurd m (by simp)⟩
  | .int i, _, x, _, _ => by
    cases x
    exact ⟨[], trivial, fun a m => absurd m (by simp)⟩
  | .str s, _, x, _, _ => by
    cases x
    exact ⟨[], trivial, fun a m => absurd m (by simp)⟩
  | .bytes b, _, x, _, _ => by
    cases x
    exact ⟨[], trivial, fun a m => absurd m (by simp)⟩
  | .list ds, _, x, p, z => by
    obtain ⟨a, vs, rfl, ho, hall⟩ := well_list x
    have z2 : WData.weightAll ds ≤ 1048576 := z
    obtain ⟨A, h1, h2⟩ := area_all ds _ hall p fun d hd => Nat.le_trans (weight_mem hd) z2
    have k : ∀ b ∈ A, b ∈ a :: A := fun b hb => List.mem_cons_of_mem _ hb
    refine ⟨a :: A, List.mem_cons_self .., fun b hb => ?_⟩
    rcases List.mem_cons.mp hb with e | m
    · rw [e]
      exact ⟨vs, line_of (by rw [wellAll_len hall]; exact Nat.le_trans (PySem.W.length_le_weightAllW ds) z2), fun u hu => (h1 u hu).mono k, .inl ho⟩
    · exact (h2 b m).mono k
  | .tuple ds, _, x, p, z => by
    obtain ⟨a, vs, rfl, ho, hall⟩ := well_tuple x
    have z2 : WData.weightAll ds ≤ 1048576 := z
    obtain ⟨A, h1, h2⟩ := area_all ds _ hall p fun d hd => Nat.le_trans (weight_mem hd) z2
    have k : ∀ b ∈ A, b ∈ a :: A := fun b hb => List.mem_cons_of_mem _ hb
    refine ⟨a :: A, List.mem_cons_self .., fun b hb => ?_⟩
    rcases List.mem_cons.mp hb with e | m
    · rw [e]
      exact ⟨vs, line_of (by rw [wellAll_len hall]; exact Nat.le_trans (PySem.W.length_le_weightAllW ds) z2), fun u hu => (h1 u hu).mono k, .inr ho⟩
    · exact (h2 b m).mono k
  | .float _, _, _, p, _ => Bool.noConfusion (show false = true from p)
  | .dict _, _, _, p, _ => Bool.noConfusion (show false = true from p)
  | .bytearray _, _, _, p, _ => Bool.noConfusion (show false = true from p)
  | .set _, _, _, p, _ => Bool.noConfusion (show false = true from p)
  | .frozenset _, _, _, p, _ => Bool.noConfusion (show false = true from p)
  | .obj _ _, _, _, p, _ => Bool.noConfusion (show false = true from p)
theorem area_all : ∀ (ds : List WData) (vs : List Value), WellAll P h vs ds → plWs ds = true → (∀ d ∈ ds, d.weight ≤ 1048576) → ∃ A : List Addr, (∀ u ∈ vs, OkU A u) ∧ ∀ a ∈ A, ArgOb h A a
  | [], _, x, _, _ => by
    cases x
    exact ⟨[], fun u m => absurd m (by simp), fun a m => absurd m (by simp)⟩
  | d :: ds, _, x, p, z => by
    obtain ⟨v, vs, rfl, x1, x2⟩ := well_cons x
    have q : plW d = true ∧ plWs ds = true := Bool.and_eq_true_iff.mp p
    obtain ⟨A, a1, a2⟩ := area_one d v x1 q.1 (z d (List.mem_cons_self ..))
    obtain ⟨B, b1, b2⟩ := area_all ds vs x2 q.2 fun e he => z e (List.mem_cons_of_mem _ he)
    have kA : ∀ b ∈ A, b ∈ A ++ B := fun b hb => List.mem_append.mpr (.inl hb)
    have kB : ∀ b ∈ B, b ∈ A ++ B := fun b hb => List.mem_append.mpr (.inr hb)
    refine ⟨A ++ B, fun u hu => ?_, fun b hb => ?_⟩
    · rcases List.mem_cons.mp hu with e | m
      · rw [e]
        exact a1.mono kA
      · exact (b1 u m).mono kB
    · rcases List.mem_append.mp hb with m | m
      · exact (a2 b m).mono kA
      · exact (b2 b m).mono kB
end
end
/-- what is tracked of an argument's object -/
def hoOf (o : Obj) : Option HO := match o.data with
  | .seq vs _ => if (o.cls == Value.type "list") = true then some (.frz o (.lst (vs.toList.map toV))) else some (.frz o (.tup (vs.toList.map toV)))
  | _ => none
def argH (K : PySem.W.Frag) (h : Heap) (A : List Addr) : Hp := fun b => if b ∈ A then (if (K.lookup b).isNone = true then (h.get? b).bind hoOf else none) else none
/-- nothing is tracked but what is known to the object -/
def OnlyF (H : Hp) : Prop := ∀ b, H b = none ∨ ∃ o u, H b = some (.frz o u)
theorem hoOf_lst (vs : List Value) : hoOf { cls := .type "list", data := .seq vs.toArray } = some (.frz { cls := .type "list", data := .seq vs.toArray } (.lst (vs.map toV))) := by
  show (if (Value.type "list" == Value.type "list") = true then some (HO.frz { cls := .type "list", data := .seq vs.toArray } (.lst (vs.toArray.toList.map toV))) else some (HO.frz { cls := .type "list", data := .seq vs.toArray } (.tup (vs.toArray.toList.map toV)))) = _
  rw [if_pos (beq_self_eq_true _)]
theorem hoOf_tup (vs : List Value) : hoOf { cls := .type "tuple", data := .seq vs.toArray } = some (.frz { cls := .type "tuple", data := .seq vs.toArray } (.tup (vs.map toV))) := by
  show (if (Value.type "tuple" == Value.type "list") = true then some (HO.frz { cls := .type "tuple", data := .seq vs.toArray } (.lst (vs.toArray.toList.map toV))) else some (HO.frz { cls := .type "tuple", data := .seq vs.toArray } (.tup (vs.toArray.toList.map toV)))) = _
  rw [if_neg (by decide)]
section
variable {P : Program} {w : World} {K : PySem.W.Frag} {h : Heap} {A : List Addr}
theorem argH_at {b : Addr} {o : Obj} (hb : b ∈ A) (hk : K.lookup b = none) (e : h.get? b = some o) : argH K h A b = hoOf o := by
  unfold argH
  rw [if_pos hb, hk, if_pos (show (none : Option Obj).isNone = true from rfl), e] <;> rfl
theorem of_argH {b : Addr} {u : HO} (q : argH K h A b = some u) : b ∈ A ∧ K.lookup b = none := by
  unfold argH at q
  by_cases hb : b ∈ A
  · rw [if_pos hb] at q
    cases hk : K.lookup b with
    | none => exact ⟨hb, rfl⟩
    | some o =>
      rw [hk, if_neg (by simp)] at q
      cases q
  · rw [if_neg hb] at q
    cases q
/-- what stands tracked -/
theorem argH_is (ar : ∀ a ∈ A, ArgOb h A a) {b : Addr} {u : HO} (q : argH K h A b = some u) : K.lookup b = none ∧ ∃ vs : List Value, vs.length ≤ sizeLine ∧ (∀ u ∈ vs, OkU A u) ∧
    ((h.get? b = some { cls := .type "list", data := .seq vs.toArray } ∧ u = .frz { cls := .type "list", data := .seq vs.toArray } (.lst (vs.map toV))) ∨
     (h.get? b = some { cls := .type "tuple", data := .seq vs.toArray } ∧ u = .frz { cls := .type "tuple", data := .seq vs.toArray } (.tup (vs.map toV)))) := by
  obtain ⟨hb, hk⟩ := of_argH q
  obtain ⟨vs, h1, h2, h3⟩ := ar b hb
  refine ⟨hk, vs, h1, h2, ?_⟩
  rcases h3 with e | e
  · rw [argH_at hb hk e, hoOf_lst] at q
    exact .inl ⟨e, (Option.some.inj q).symm⟩
  · rw [argH_at hb hk e, hoOf_tup] at q
    exact .inr ⟨e, (Option.some.inj q).symm⟩
theorem argH_only (ar : ∀ a ∈ A, ArgOb h A a) : OnlyF (argH K h A) := fun b => by
  cases q : argH K h A b with
  | none => exact .inl rfl
  | some u =>
    obtain ⟨_, vs, _, _, ⟨_, e⟩ | ⟨_, e⟩⟩ := argH_is ar q
    · exact .inr ⟨_, _, by rw [e]⟩
    · exact .inr ⟨_, _, by rw [e]⟩
theorem argH_ok (ar : ∀ a ∈ A, ArgOb h A a) : HOk P w (argH K h A) h := fun b u q => by
  obtain ⟨_, vs, h1, h2, ⟨e, rfl⟩ | ⟨e, rfl⟩⟩ := argH_is ar q
  · exact ⟨e, by rw [List.length_map]; exact h1, vs, _, vals_toV h2, e⟩
  · exact ⟨e, by rw [List.length_map]; exact h1, vs, vals_toV h2, _, e, rfl, _, rfl⟩
theorem seq_inj {c c' : Value} {vs us : List Value} (e : (some { cls := c, data := .seq vs.toArray } : Option Obj) = some { cls := c', data := .seq us.toArray }) : c = c' ∧ vs = us := by
  have e1 := Option.some.inj e
  have e2 : c = c' := congrArg Obj.cls e1
  have e3 : Data.seq vs.toArray = Data.seq us.toArray := congrArg Obj.data e1
  injection e3 with e4
  refine ⟨e2, ?_⟩
  have e5 := congrArg Array.toList e4
  simpa using e5
/-- a list argument -/
theorem argL (KX : K.In h) (ar : ∀ a ∈ A, ArgOb h A a) {a : Addr} {vs : List Value} (ha : a ∈ A) (e : h.get? a = some { cls := .type "list", data := .seq vs.toArray }) : (∀ u ∈ vs, OkU A u) ∧ SqL K (argH K h A) a (vs.map toV) := by
  obtain ⟨us, h1, h2, h3⟩ := ar a ha
  have hu : us = vs := by
    rcases h3 with q | q
    · rw [e] at q
      exact (seq_inj q).2.symm
    · rw [e] at q
      exact absurd (Value.type.inj (seq_inj q).1) (by decide)
  subst hu
  refine ⟨h2, ?_⟩
  cases hk : K.lookup a with
  | none => exact .inl (.inr ⟨_, by rw [argH_at ha hk e, hoOf_lst]⟩)
  | some o =>
    have e2 := KX a o hk
    rw [e] at e2
    obtain rfl := Option.some.inj e2
    exact .inr ⟨_, us.toArray, _, hk, rfl, rfl, rfl, by rw [List.size_toArray]; exact h1, by simpa using vals_toV h2⟩
theorem argT (KX : K.In h) (ar : ∀ a ∈ A, ArgOb h A a) {a : Addr} {vs : List Value} (ha : a ∈ A) (e : h.get? a = some { cls := .type "tuple", data := .seq vs.toArray }) : (∀ u ∈ vs, OkU A u) ∧ SqT K (argH K h A) a (vs.map toV) := by
  obtain ⟨us, h1, h2, h3⟩ := ar a ha
  have hu : us = vs := by
    rcases h3 with q | q
    · rw [e] at q
      exact absurd (Value.type.inj (seq_inj q).1) (by decide)
    · rw [e] at q
      exact (seq_inj q).2.symm
  subst hu
  refine ⟨h2, ?_⟩
  cases hk : K.lookup a with
  | none => exact .inl (.inr ⟨_, by rw [argH_at ha hk e, hoOf_tup]⟩)
  | some o =>
    have e2 := KX a o hk
    rw [e] at e2
    obtain rfl := Option.some.inj e2
    exact .inr ⟨_, us.toArray, _, hk, rfl, rfl, by rw [List.size_toArray]; exact h1, by simpa using vals_toV h2⟩
mutual
theorem dw_one {Pm : Params} (KX : K.In h) (ar : ∀ a ∈ A, ArgOb h A a) : ∀ (d : WData) (v : Value), Well Pm h v d → plW d = true → OkU A v → Dw K (argH K h A) (toV v) d
  | .none, _, x, _, _ => by
    cases x
    exact .non
  | .bool b, _, x, _, _ => by
    cases x
    exact .bl b
  | .int i, _, x, _, _ => by
    cases x
    exact .int i
  | .str s, _, x, _, _ => by
    cases x
    exact .str s
  | .bytes b, _, x, _, _ => by
    cases x
    have z := Dw.byt (K := K) (H := argH K h A) b.toArray
    exact z
  | .list ds, _, x, p, hu => by
    obtain ⟨a, vs, rfl, ho, hall⟩ := well_list x
    obtain ⟨h2, hs⟩ := argL KX ar hu ho
    exact .lst hs (dw_all KX ar ds _ hall p h2)
  | .tuple ds, _, x, p, hu => by
    obtain ⟨a, vs, rfl, ho, hall⟩ := well_tuple x
    obtain ⟨h2, hs⟩ := argT KX ar hu ho
    exact .tup hs (dw_all KX ar ds _ hall p h2)
  | .float _, _, _, p, _ => Bool.noConfusion (show false = true from p)
  | .dict _, _, _, p, _ => Bool.noConfusion (show false = true from p)
  | .bytearray _, _, _, p, _ => Bool.noConfusion (show false = true from p)
  | .set _, _, _, p, _ => Bool.noConfusion (show false = true from p)
  | .frozenset _, _, _, p, _ => Bool.noConfusion (show false = true from p)
  | .obj _ _, _, _, p, _ => Bool.noConfusion (show false = true from p)
theorem dw_all {Pm : Params} (KX : K.In h) (ar : ∀ a ∈ A, ArgOb h A a) : ∀ (ds : List WData) (vs : List Value), WellAll Pm h vs ds → plWs ds = true → (∀ u ∈ vs, OkU A u) → DwAll K (argH K h A) (vs.map toV) ds
  | [], _, x, _, _ => by
    cases x
    exact .nil
  | d :: ds, _, x, p, hu => by
    obtain ⟨v, vs, rfl, x1, x2⟩ := well_cons x
    have q : plW d = true ∧ plWs ds = true := Bool.and_eq_true_iff.mp p
    exact .cons (dw_one KX ar d v x1 q.1 (hu _ (List.mem_cons_self ..))) (dw_all KX ar ds vs x2 q.2 fun u m => hu u (List.mem_cons_of_mem _ m))
end
end
/-! ### the call -/
theorem spec_call {P : Program} {w : World} {K : PySem.W.Frag} {mg mb : Str → Option Value} {CX : CXT} {k : Nat} {fa : Addr} {fd : FuncData} {ps : List Str} {sp : Sp} {s₁ : Shared} {vals : List Value} {ds : List WData} {R : PySem.W.WRecords} {cl : Str → Option Addr} {d0 : WData}
    (KX : K.In s₁.heap) (hns : s₁.heap.Ns mainGlobals mg) (hb : s₁.heap.Ns builtinsNs mb) (hbb : ∀ x : Str, x ≠ "__name__" → mb x = bootBuiltins x) (hlim : s₁.heap.NoLimit) (hg : s₁.gens = #[])
    (hwl : WellAll w.params s₁.heap vals ds) (hpl : plWs ds = true) (hwt : ∀ d ∈ ds, d.weight ≤ 1048576) (hr : Room k callerA)
    (F : ∀ base : Heap, K.In base → base.Ns mainGlobals mg → FnOk P w K mg base CX k fa fd ps sp) (hbind : ∀ (s : Shared) (us : List Value), us.length = ps.length → BindsTo s fd ⟨us, []⟩ (ps.zip us)) (hlen : ds.length = ps.length)
    (hsp : ∀ (H : Hp) (xs : List V), OnlyF H → DwAll K H xs ds → sp xs H (fun v H' => Dw K H' v d0) fun _ _ _ => False)
    (hCX : ∀ H e s', CX [] H s₁ (fun _ _ _ => False) e s' → False) :
    codeAny (model P w) callerA (.call (.ref fa) ⟨vals, []⟩) (fun r s' => ∃ u as, r = .ok (.ret u) ∧ ReadsW R cl s'.heap u d0 as ∧ OldK s₁.heap s'.heap ∧ s'.os = s₁.os ∧ AllBare s'.gens) s₁ := by
  obtain ⟨A, ho, ar⟩ := area_all ds vals hwl hpl hwt
  have hO : OnlyF (argH K s₁.heap A) := argH_only ar
  have hok : HOk P w (argH K s₁.heap A) s₁.heap := argH_ok ar
  have hS := dw_all KX ar ds vals hwl hpl ho
  have hV := vals_toV ho
  have hK : ∀ b u, argH K s₁.heap A b = some u → K.lookup b = none := fun b u q => (argH_is ar q).1
  have noA : ∀ {b : Addr} {o : Obj} {es : Array DictEntry} {ep : Nat}, s₁.heap.get? b = some o → o.data = .dict es ep → argH K s₁.heap A b = none := fun {b o es ep} e d => by
    cases q : argH K s₁.heap A b with
    | none => rfl
    | some u =>
      obtain ⟨_, vs, _, _, ⟨e2, _⟩ | ⟨e2, _⟩⟩ := argH_is ar q
      · rw [e2] at e
        cases e
        have d' : Data.seq vs.toArray _ = Data.dict es ep := d
        cases d'
      · rw [e2] at e
        cases e
        have d' : Data.seq vs.toArray _ = Data.dict es ep := d
        cases d'
  generalize argH K s₁.heap A = H at hO hok hS hK noA
  have base_of : ∀ {b : Addr} {o : Obj}, s₁.heap.get? b = some o → H b = none → (hidT s₁.heap H).get? b = some o := fun e n => hidT_get e n
  have nsK : ∀ {b : Addr} {m : Str → Option Value}, s₁.heap.Ns b m → (hidT s₁.heap H).Ns b m := fun {b m} ⟨o, es, ep, e, d, r⟩ => ⟨o, es, ep, base_of e (noA e d), d, r⟩
  have nK : ∀ b o, K.lookup b = some o → H b = none := fun b o e => by
    cases q : H b with
    | none => rfl
    | some u =>
      rw [hK b u q] at e
      cases e
  have hKb : K.In (hidT s₁.heap H) := fun b o e => base_of (KX b o e) (nK b o e)
  have hM : Mod K mg (hidT s₁.heap H) := ⟨hKb, nsK hns, ⟨mb, nsK hb, hbb⟩, let ⟨mc, h1, h2⟩ := hlim; ⟨mc, nsK h1, h2⟩⟩
  have e0 : Env0 P w K mg (hidT s₁.heap H) callerA [] s₁ H := ⟨rfl, hM, fun b o e => of_hidT e, Nat.le_of_eq (hidT_size _ _), trivial, fun b hb => absurd (show b ∈ ([] : List Addr) from hb) (by simp), hok, .of_eq hg⟩
  have hl : vals.length = ps.length := by rw [wellAll_len hwl]; exact hlen
  refine codeAny_mono ((F _ hKb (nsK hns)).run callerA [] s₁ H ⟨vals, []⟩ vals (vals.map toV) _ _ hr e0 (hbind s₁ vals hl) hV (hsp H _ hO hS)) fun r s' x => ?_
  cases r with
  | error e => exact (hCX H e s' x).elim
  | ok fl =>
    cases fl with
    | next => exact False.elim x
    | brk => exact False.elim x
    | cont => exact False.elim x
    | ret u =>
      obtain ⟨v, H', os, bare, un, hok', r', q⟩ := x
      have kept : ∀ b o, s₁.heap.get? b = some o → s'.heap.get? b = some o := fun b o e => by
        cases q2 : H b with
        | none => exact un.keep b o e q2 (by intro z; exact absurd (show b ∈ ([] : List Addr) from z) (by simp)) (by simp)
        | some u2 =>
          rcases hO b with z | ⟨ob, u3, z⟩
          · rw [q2] at z
            cases z
          · have z2 := un.frzs b ob _ z
            obtain ⟨e1, _⟩ := hok b _ z
            obtain ⟨e2, _⟩ := hok' b _ z2
            rw [e] at e1
            cases e1
            exact e2
      have KX' : K.In s'.heap := fun b o e => kept b o (KX b o e)
      obtain ⟨as, hrd⟩ := Dw.reads (R := R) (cl := cl) hok' KX' d0 v u q r'
      exact ⟨u, as, rfl, hrd, OldK.of_keep kept, os, bare⟩
/-! ### the row -/
theorem layable_weight {ds : List WData} (h : WData.layableAll ds = true) : ∀ d ∈ ds, d.weight ≤ 1048576 := fun d hd =>
  (PySem.W.layableW_iff.mp (List.all_eq_true.mp h d hd)).2.2
theorem encAll_len : ∀ (cs : List Codec) (a : Codec.denoteAll cs), (Codec.encAll cs a).length = cs.length
  | [], _ => rfl
  | c :: cs, a => by
    show (Codec.encAll cs a.2).length + 1 = cs.length + 1
    rw [encAll_len cs a.2]
/-- the goal that k_headS leaves (case hc), from the promise of the row's def: whatever the arguments that the codecs let and the row asks for, the def gives what stands for enc (f ..) -/
theorem walk_spec {r : OpenSpec} {k : Nat} {q : Program} {loose : List Str} {XP : (Str → Option Value) → Heap → Prop} {YP : World → Heap → Prop} {d : DefRec} {K : Params → PySem.W.Frag} {CX : World → CXT} {ps : List Str} {sp : World → Sp}
    (hwell : r.wellSaid = true) (hdf : d.params.defaults = []) (hlen : r.args.length = ps.length) (hr : Room k callerA)
    (hY : ∀ (w : World) (h : Heap), YP w h → (K w.params).In h)
    (F : ∀ (w : World) (mg : Str → Option Value) (fa : Addr) (h : Heap), YP w h → (K w.params).In h → h.Ns mainGlobals mg → mg d.name = some (.ref fa) →
      ∃ fd : FuncData, (∀ (s : Shared) (us : List Value), us.length = ps.length → BindsTo s fd ⟨us, []⟩ (ps.zip us)) ∧
        ∀ base : Heap, (K w.params).In base → base.Ns mainGlobals mg → FnOk r.prog w (K w.params) mg base (CX w) k fa fd ps (sp w))
    (hsp : ∀ (w : World) (H : Hp) (xs : List V) (a : Codec.denoteAll r.args), OnlyF H → Codec.withinAll r.args a = true → Codec.app r.args r.asked a = true → DwAll (K w.params) H xs (Codec.encAll r.args a) →
      sp w xs H (fun v H' => Dw (K w.params) H' v (r.ret.enc (Codec.app r.args r.f a))) fun _ _ _ => False)
    (hCX : ∀ (w : World) (H : Hp) (s : Shared) (e : Value) (s' : Shared), CX w [] H s (fun _ _ _ => False) e s' → False) :
    PySem.W.WalkOS q loose XP YP r d [] (fun f vs => PySem.call f vs) := by
  intro w s_0 s₁ mg mb G Y fa o pm cd doc dV kV ho hd hcd hD hmg hg args vals as hpre hlay hrd hwl hlo
  obtain ⟨a, e1, e2⟩ := PySem.W.os_pre_some hpre
  obtain ⟨e3, hwi⟩ := Codec.encAll_of_decAll r.args args a e1
  subst e3
  have KX := hY w _ Y
  obtain ⟨fd, hb, hF⟩ := F w mg fa _ Y KX G.T.g hmg
  refine PySem.W.enter_call (codeAny_mono (spec_call (R := []) (cl := classAt s_0.heap) (d0 := r.ret.enc (Codec.app r.args r.f a)) KX G.T.g G.T.b G.T.builtins G.T.nolimit hg hwl (pl_encAll _ _) (layable_weight hlay) hr hF hb (by rw [encAll_len]; exact hlen)
    (fun H xs hO hS => hsp w H xs a hO hwi e2 hS) fun H e s' => hCX w H s₁ e s') fun r' s' hq => ?_)
  obtain ⟨u, as', rfl, h1, h2, h3, h4⟩ := hq
  exact ⟨.inl ⟨u, _, as', rfl, fun _ => rfl, h1, (OpenSpec.post_iff hwell hwi _ _).mpr rfl, fun z => Bool.noConfusion (show false = true from z)⟩, h2, h3, h4⟩
/-- the same where the promise hangs on the written part alone -/
theorem walk_specK {r : OpenSpec} {k : Nat} {q : Program} {loose : List Str} {XP : (Str → Option Value) → Heap → Prop} {YP : World → Heap → Prop} {d : DefRec} {K : Params → PySem.W.Frag} {CX : CXT} {ps : List Str} {sp : PySem.W.Frag → Sp}
    (hwell : r.wellSaid = true) (hdf : d.params.defaults = []) (hlen : r.args.length = ps.length) (hr : Room k callerA)
    (hY : ∀ (w : World) (h : Heap), YP w h → (K w.params).In h)
    (F : ∀ (w : World) (mg : Str → Option Value) (fa : Addr) (h : Heap), YP w h → (K w.params).In h → h.Ns mainGlobals mg → mg d.name = some (.ref fa) →
      ∃ fd : FuncData, (∀ (s : Shared) (us : List Value), us.length = ps.length → BindsTo s fd ⟨us, []⟩ (ps.zip us)) ∧
        ∀ base : Heap, (K w.params).In base → base.Ns mainGlobals mg → FnOk r.prog w (K w.params) mg base CX k fa fd ps (sp (K w.params)))
    (hsp : ∀ (K : PySem.W.Frag) (H : Hp) (xs : List V) (a : Codec.denoteAll r.args), OnlyF H → Codec.withinAll r.args a = true → Codec.app r.args r.asked a = true → DwAll K H xs (Codec.encAll r.args a) →
      sp K xs H (fun v H' => Dw K H' v (r.ret.enc (Codec.app r.args r.f a))) fun _ _ _ => False)
    (hCX : ∀ (H : Hp) (s : Shared) (e : Value) (s' : Shared), CX [] H s (fun _ _ _ => False) e s' → False) :
    PySem.W.WalkOS q loose XP YP r d [] (fun f vs => PySem.call f vs) :=
  walk_spec (K := K) (CX := fun _ => CX) (sp := fun w => sp (K w.params)) hwell hdf hlen hr hY F (fun w H xs a h1 h2 h3 h4 => hsp (K w.params) H xs a h1 h2 h3 h4) fun _ H s e s' => hCX H s e s'
end L2
-- rests on (row put in by the clerk, for the bench that shows a file only what it spells): KE.SpHead KE.OsShapes
end


set_option Elab.async false
set_option linter.all false
namespace Rm
open Eh
/-- a line's two ends, whole -/
structure Ln where
  x0 : Int
  y0 : Int
  x1 : Int
  y1 : Int
  deriving DecidableEq
instance : Inhabited Ln := ⟨⟨0, 0, 0, 0⟩⟩
def Ln.dx (l : Ln) : Int := l.x1 - l.x0
def Ln.dy (l : Ln) : Int := l.y1 - l.y0
def Ln.pts (l : Ln) : Pt × Pt := (⟨l.x0, l.y0, 0⟩, ⟨l.x1, l.y1, 0⟩)
def absI (i : Int) : Int := if i < 0 then -i else i
def minI (i j : Int) : Int := if j < i then j else i
def maxI (i j : Int) : Int := if j > i then j else i
def straightB (l : Ln) : Bool := decide (l.dx = 0) || decide (l.dy = 0)
def hasDir (l : Ln) : Bool := decide (0 < absI l.dx + absI l.dy) && (straightB l || decide (absI l.dx = absI l.dy))
def par (a b : Ln) : Bool := decide (a.dx * b.dy = a.dy * b.dx)
def side (l : Ln) (x y : Int) : Int := l.dx * (y - l.y0) - l.dy * (x - l.x0)
def overX (a b : Ln) : Bool := decide (maxI (minI a.x0 a.x1) (minI b.x0 b.x1) ≤ minI (maxI a.x0 a.x1) (maxI b.x0 b.x1))
def overY (a b : Ln) : Bool := decide (maxI (minI a.y0 a.y1) (minI b.y0 b.y1) ≤ minI (maxI a.y0 a.y1) (maxI b.y0 b.y1))
def reach (a b : Ln) : Bool := decide (side b a.x0 a.y0 * side b a.x1 a.y1 ≤ 0)
def common (a b : Ln) : Bool := (overX a b && overY a b) && (reach a b && reach b a)

theorem left_cast (l : Ln) (x y : Int) (z : Rat) : left l.pts.1 l.pts.2 ⟨x, y, z⟩ = ((side l x y : Int) : Rat) := by
  unfold left side Ln.pts Ln.dx Ln.dy
  simp only [Rat.intCast_sub, Rat.intCast_mul]

theorem dirOk_pts (l : Ln) : dirOk l.pts = hasDir l := by
  unfold dirOk hasDir straightB Ln.pts
  simp only [← Rat.intCast_sub, ← Rat.intCast_neg]
  have e0 : ∀ z : Int, (((z : Int) : Rat) == 0) = decide (z = 0) := fun z => by
    rw [Bool.eq_iff_iff]
    simp
  have e1 : ∀ y z : Int, (((y : Int) : Rat) == ((z : Int) : Rat)) = decide (y = z) := fun y z => by
    rw [Bool.eq_iff_iff]
    simp
  simp only [e0, e1]
  rw [Bool.eq_iff_iff]
  simp only [Bool.and_eq_true, Bool.or_eq_true, Bool.not_eq_true', decide_eq_true_eq, Bool.and_eq_false_iff, decide_eq_false_iff_not]
  unfold absI Ln.dx Ln.dy
  constructor
  · intro h
    split <;> split <;> omega
  · intro h
    split at h <;> split at h <;> omega

theorem alongside_pts (a b : Ln) : alongside a.pts b.pts = par a b := by
  unfold alongside par Ln.pts
  simp only [← Rat.intCast_sub, ← Rat.intCast_mul]
  rw [Bool.eq_iff_iff]
  simp only [beq_iff_eq, decide_eq_true_eq, Rat.intCast_eq_zero_iff]
  unfold Ln.dx Ln.dy
  omega

theorem min_cast (a b : Int) : min (a : Rat) (b : Rat) = ((min a b : Int) : Rat) := by
  rw [Rat.min_def, Int.min_def]
  simp only [Rat.intCast_le_intCast]
  split <;> rfl
theorem max_cast (a b : Int) : max (a : Rat) (b : Rat) = ((max a b : Int) : Rat) := by
  rw [Rat.max_def, Int.max_def]
  simp only [Rat.intCast_le_intCast]
  split <;> rfl
theorem between_cast (a b c : Int) : between (a : Rat) (b : Rat) (c : Rat) = decide (min a b ≤ c ∧ c ≤ max a b) := by
  unfold between
  rw [min_cast, max_cast]
  simp only [Rat.intCast_le_intCast]
  rw [Bool.decide_and]

/-- on a line, whole -/
def onI (l : Ln) (x y : Int) : Prop := side l x y = 0 ∧ (min l.x0 l.x1 ≤ x ∧ x ≤ max l.x0 l.x1) ∧ (min l.y0 l.y1 ≤ y ∧ y ≤ max l.y0 l.y1)
instance (l : Ln) (x y : Int) : Decidable (onI l x y) := inferInstanceAs (Decidable (_ ∧ (_ ∧ _) ∧ (_ ∧ _)))
theorem onLine_pts (l : Ln) (x y : Int) (z : Rat) : onLine l.pts ⟨x, y, z⟩ = decide (onI l x y) := by
  unfold onLine
  rw [left_cast]
  show (_ == (0 : Rat) && (between (l.x0 : Rat) (l.x1 : Rat) (x : Rat) && between (l.y0 : Rat) (l.y1 : Rat) (y : Rat))) = _
  rw [between_cast, between_cast, Bool.eq_iff_iff, decide_eq_true_iff]
  unfold onI
  simp

theorem hasDir_cases {l : Ln} (h : hasDir l = true) : (l.dy = 0 ∧ l.dx ≠ 0) ∨ (l.dx = 0 ∧ l.dy ≠ 0) ∨ (l.dx = l.dy ∧ l.dx ≠ 0) ∨ (l.dx = -l.dy ∧ l.dx ≠ 0) := by
  unfold hasDir straightB absI at h
  simp only [Bool.and_eq_true, Bool.or_eq_true, decide_eq_true_eq] at h
  obtain ⟨h1, h2⟩ := h
  split at h1 <;> split at h1 <;> (simp only [*, if_true, if_false] at h2) <;> omega

theorem le0_iff {c a b : Int} (hc : c ≠ 0) : (c * a) * (c * b) ≤ 0 ↔ (a ≤ 0 ∧ 0 ≤ b) ∨ (0 ≤ a ∧ b ≤ 0) := by
  have e : (c * a) * (c * b) = (c * c) * (a * b) := by rw [Int.mul_assoc, Int.mul_left_comm a, ← Int.mul_assoc c c]
  have p : 0 < c * c := by
    rcases Int.lt_or_gt_of_ne hc with h | h
    · exact Int.mul_pos_of_neg_of_neg h h
    · exact Int.mul_pos h h
  rw [e]
  constructor
  · intro h
    have h' : a * b ≤ 0 := by
      refine Int.not_lt.mp fun q => ?_
      have := Int.mul_pos p q
      omega
    by_cases ha : a ≤ 0
    · by_cases hb : 0 ≤ b
      · exact .inl ⟨ha, hb⟩
      · by_cases ha0 : a = 0
        · subst ha0; exact .inr ⟨Int.le_refl _, by omega⟩
        · have := Int.mul_pos_of_neg_of_neg (show a < 0 by omega) (show b < 0 by omega)
          omega
    · by_cases hb : b ≤ 0
      · exact .inr ⟨by omega, hb⟩
      · have := Int.mul_pos (show 0 < a by omega) (show 0 < b by omega)
        omega
  · intro h
    have h' : a * b ≤ 0 := by
      rcases h with ⟨x, y⟩ | ⟨x, y⟩
      · exact Int.mul_nonpos_of_nonpos_of_nonneg x y
      · exact Int.mul_nonpos_of_nonneg_of_nonpos x y
    exact Int.mul_nonpos_of_nonneg_of_nonpos (Int.le_of_lt p) h'
theorem lt0_iff {c a b : Int} (hc : c ≠ 0) : (c * a) * (c * b) < 0 ↔ (a < 0 ∧ 0 < b) ∨ (0 < a ∧ b < 0) := by
  have q : (c * a) * (c * b) = 0 ↔ a = 0 ∨ b = 0 := by
    rw [Int.mul_eq_zero, Int.mul_eq_zero, Int.mul_eq_zero]
    simp [hc]
  have := le0_iff (a := a) (b := b) hc
  omega
theorem eq0_iff {c a : Int} (hc : c ≠ 0) : c * a = 0 ↔ a = 0 := by
  rw [Int.mul_eq_zero]; simp [hc]

/-- the line's form, up to a factor that isn't 0 -/
theorem side_form {l : Ln} (h : hasDir l = true) : ∃ c : Int, c ≠ 0 ∧ ((l.y0 = l.y1 ∧ l.x0 ≠ l.x1 ∧ ∀ x y, side l x y = c * (y - l.y0)) ∨ (l.x0 = l.x1 ∧ l.y0 ≠ l.y1 ∧ ∀ x y, side l x y = c * (x - l.x0))
    ∨ (l.x1 - l.x0 = l.y1 - l.y0 ∧ l.x0 ≠ l.x1 ∧ ∀ x y, side l x y = c * ((y - l.y0) - (x - l.x0))) ∨ (l.x1 - l.x0 = - (l.y1 - l.y0) ∧ l.x0 ≠ l.x1 ∧ ∀ x y, side l x y = c * ((y - l.y0) + (x - l.x0)))) := by
  rcases hasDir_cases h with ⟨a, b⟩ | ⟨a, b⟩ | ⟨a, b⟩ | ⟨a, b⟩
  · refine ⟨l.dx, b, .inl ⟨by unfold Ln.dy at a; omega, by unfold Ln.dx at b; omega, fun x y => ?_⟩⟩
    unfold side; rw [a]; omega
  · refine ⟨-l.dy, by omega, .inr (.inl ⟨by unfold Ln.dx at a; omega, by unfold Ln.dy at b; omega, fun x y => ?_⟩)⟩
    unfold side; rw [a, Int.neg_mul]; omega
  · refine ⟨l.dx, b, .inr (.inr (.inl ⟨by unfold Ln.dx Ln.dy at a; omega, by unfold Ln.dx at b; omega, fun x y => ?_⟩))⟩
    unfold side; rw [← a, Int.mul_sub l.dx (y - l.y0) (x - l.x0)]
  · refine ⟨l.dx, b, .inr (.inr (.inr ⟨by unfold Ln.dx Ln.dy at a; omega, by unfold Ln.dx at b; omega, fun x y => ?_⟩))⟩
    have : l.dy = - l.dx := by omega
    unfold side; rw [this, Int.mul_add, Int.neg_mul]; omega

theorem minmaxI (a b : Int) : minI a b = min a b ∧ maxI a b = max a b := by
  unfold minI maxI
  constructor <;> (split <;> omega)

theorem ovl (a b c d : Int) : max (min a b) (min c d) ≤ min (max a b) (max c d) ↔ (min a b ≤ max c d ∧ min c d ≤ max a b) := by omega
theorem r_pos_neg {a b : Rat} (ha : 0 < a) (h : 0 < a * b) : 0 < b := (Rat.mul_pos_iff_of_pos_left ha).mp h
theorem r_neg_neg {a b : Rat} (ha : a < 0) (hb : b < 0) : 0 < a * b := by
  have := Rat.mul_pos (show 0 < -a by grind) (show 0 < -b by grind)
  grind
theorem r_neg_pos {a b : Rat} (ha : a < 0) (hb : 0 < b) : a * b < 0 := by
  have := Rat.mul_pos (show 0 < -a by grind) hb
  grind
theorem r_pos_of_neg {a b : Rat} (ha : a < 0) (h : 0 < a * b) : b < 0 := by
  refine Rat.not_le.mp fun q => ?_
  have := Rat.mul_nonneg (show 0 ≤ -a by grind) q
  grind
/-- an affine number that changes its sign is 0 in between -/
theorem zero_between {al be s1 s2 : Rat} (h12 : s1 ≤ s2) (h : (0 < al + s1 * be ∧ al + s2 * be ≤ 0) ∨ (al + s1 * be ≤ 0 ∧ 0 < al + s2 * be)) : ∃ s, s1 ≤ s ∧ s ≤ s2 ∧ al + s * be = 0 := by
  have hb : be ≠ 0 := by
    intro z
    subst z
    grind
  obtain ⟨s0, e⟩ : ∃ s0 : Rat, al + s0 * be = 0 := ⟨-al / be, by rw [Rat.div_mul_cancel hb]; grind⟩
  have e1 : al + s1 * be = (s1 - s0) * be := by grind
  have e2 : al + s2 * be = (s2 - s0) * be := by grind
  rw [e1, e2] at h
  refine ⟨s0, ?_, ?_, e⟩
  · refine Rat.not_lt.mp fun q => ?_
    have u : 0 < s1 - s0 := by grind
    have v : 0 < s2 - s0 := by grind
    rcases h with ⟨x, y⟩ | ⟨x, y⟩
    · have := Rat.mul_pos v (r_pos_neg u x)
      grind
    · have := Rat.mul_pos u (r_pos_neg v y)
      grind
  · refine Rat.not_lt.mp fun q => ?_
    have u : s1 - s0 < 0 := by grind
    have v : s2 - s0 < 0 := by grind
    rcases h with ⟨x, y⟩ | ⟨x, y⟩
    · have := r_neg_neg v (r_pos_of_neg u x)
      grind
    · have := r_neg_neg u (r_pos_of_neg v y)
      grind
theorem mul_cancel0 {a b : Rat} (ha : a ≠ 0) (h : a * b = 0) : b = 0 := by
  rcases Rat.mul_eq_zero.mp h with z | z
  · exact absurd z ha
  · exact z
theorem frac01 {w e : Rat} (he : e ≠ 0) (h1 : min 0 e ≤ w) (h2 : w ≤ max 0 e) : ∃ u, 0 ≤ u ∧ u ≤ 1 ∧ u * e = w := by
  have q : w / e * e = w := Rat.div_mul_cancel he
  generalize w / e = u at q
  refine ⟨u, ?_, ?_, q⟩
  · refine Rat.not_lt.mp fun z => ?_
    rcases Rat.le_total (a := 0) (b := e) with p | p
    · have := r_neg_pos z (show 0 < e by grind)
      grind
    · have := r_neg_neg z (show e < 0 by grind)
      grind
  · refine Rat.not_lt.mp fun z => ?_
    rcases Rat.le_total (a := 0) (b := e) with p | p
    · have := Rat.mul_pos (show 0 < u - 1 by grind) (show 0 < e by grind)
      grind
    · have := Rat.mul_pos (show 0 < u - 1 by grind) (show 0 < -e by grind)
      grind
theorem on_param {l : Pt × Pt} {v : Pt} (h : onLine l v = true) : ∃ u, 0 ≤ u ∧ u ≤ 1 ∧ v.x = l.1.x + u * (l.2.x - l.1.x) ∧ v.y = l.1.y + u * (l.2.y - l.1.y) := by
  unfold onLine between at h
  simp only [Bool.and_eq_true, decide_eq_true_eq, beq_iff_eq] at h
  obtain ⟨h0, ⟨hx1, hx2⟩, hy1, hy2⟩ := h
  unfold left at h0
  by_cases ex : l.2.x - l.1.x = 0
  · have vx : v.x = l.1.x := by grind
    by_cases ey : l.2.y - l.1.y = 0
    · exact ⟨0, by decide, by decide, by grind, by grind⟩
    · obtain ⟨u, u0, u1, e⟩ := frac01 (w := v.y - l.1.y) ey (by grind) (by grind)
      exact ⟨u, u0, u1, by rw [ex, vx]; grind, by grind⟩
  · obtain ⟨u, u0, u1, e⟩ := frac01 (w := v.x - l.1.x) ex (by grind) (by grind)
    refine ⟨u, u0, u1, by grind, ?_⟩
    have : (l.2.x - l.1.x) * ((v.y - l.1.y) - u * (l.2.y - l.1.y)) = 0 := by grind
    have := mul_cancel0 ex this
    grind
theorem seg_between {a b u : Rat} (h0 : 0 ≤ u) (h1 : u ≤ 1) : min a b ≤ a + u * (b - a) ∧ a + u * (b - a) ≤ max a b := by
  rcases Rat.le_total (a := a) (b := b) with q | q
  · have r1 := Rat.mul_nonneg h0 (show 0 ≤ b - a by grind)
    have r2 := Rat.mul_nonneg (show 0 ≤ 1 - u by grind) (show 0 ≤ b - a by grind)
    grind
  · have r1 := Rat.mul_nonneg h0 (show 0 ≤ a - b by grind)
    have r2 := Rat.mul_nonneg (show 0 ≤ 1 - u by grind) (show 0 ≤ a - b by grind)
    grind
theorem param_on {l : Pt × Pt} {v : Pt} {u : Rat} (h0 : 0 ≤ u) (h1 : u ≤ 1) (hx : v.x = l.1.x + u * (l.2.x - l.1.x)) (hy : v.y = l.1.y + u * (l.2.y - l.1.y)) : onLine l v = true := by
  unfold onLine between
  simp only [Bool.and_eq_true, decide_eq_true_eq, beq_iff_eq]
  refine ⟨?_, ?_, ?_⟩
  · unfold left
    rw [hx, hy]
    grind
  · rw [hx]
    exact seg_between h0 h1
  · rw [hy]
    exact seg_between h0 h1
theorem onLine_plan {l : Pt × Pt} {v w : Pt} (hx : v.x = w.x) (hy : v.y = w.y) : onLine l v = onLine l w := by
  unfold onLine left
  rw [hx, hy]
theorem weak_zero {x y : Rat} (h : x * y ≤ 0) : ∃ s, 0 ≤ s ∧ s ≤ 1 ∧ x + s * (y - x) = 0 := by
  by_cases hx : 0 < x
  · have hy : y ≤ 0 := Rat.not_lt.mp fun z => by
      have := Rat.mul_pos hx z
      grind
    obtain ⟨s, s0, s1, e⟩ := zero_between (al := x) (be := y - x) (show (0 : Rat) ≤ 1 by decide) (.inl ⟨by grind, by grind⟩)
    exact ⟨s, s0, s1, e⟩
  · by_cases hy : 0 < y
    · obtain ⟨s, s0, s1, e⟩ := zero_between (al := x) (be := y - x) (show (0 : Rat) ≤ 1 by decide) (.inr ⟨by grind, by grind⟩)
      exact ⟨s, s0, s1, e⟩
    · by_cases zx : x = 0
      · exact ⟨0, by decide, by decide, by grind⟩
      · by_cases zy : y = 0
        · exact ⟨1, by decide, by decide, by grind⟩
        · have := r_neg_neg (show x < 0 by grind) (show y < 0 by grind)
          grind
theorem zero_weak {x y s : Rat} (s0 : 0 ≤ s) (s1 : s ≤ 1) (h : x + s * (y - x) = 0) : x * y ≤ 0 := by
  refine Rat.not_lt.mp fun z => ?_
  by_cases hx : 0 < x
  · have hy := r_pos_neg hx z
    have r1 := Rat.mul_nonneg s0 (Rat.le_of_lt hy)
    have r2 := Rat.mul_nonneg (show 0 ≤ 1 - s by grind) (Rat.le_of_lt hx)
    by_cases e : s = 0
    · subst e
      grind
    · have := Rat.mul_pos (show 0 < s by grind) hy
      grind
  · have hx' : x < 0 := by
      refine Rat.not_le.mp fun q => ?_
      have : x = 0 := by grind
      rw [this, Rat.zero_mul] at z
      grind
    have hy := r_pos_of_neg hx' z
    have r1 := Rat.mul_nonneg s0 (show 0 ≤ -y by grind)
    have r2 := Rat.mul_nonneg (show 0 ≤ 1 - s by grind) (show 0 ≤ -x by grind)
    by_cases e : s = 0
    · subst e
      grind
    · have := Rat.mul_pos (show 0 < s by grind) (show 0 < -y by grind)
      grind
/-- boxes that overlap, ends on both sides: a point in common -/
theorem common_pt {a b : Pt × Pt} (hx : min a.1.x a.2.x ≤ max b.1.x b.2.x ∧ min b.1.x b.2.x ≤ max a.1.x a.2.x) (hy : min a.1.y a.2.y ≤ max b.1.y b.2.y ∧ min b.1.y b.2.y ≤ max a.1.y a.2.y)
    (ha : left b.1 b.2 a.1 * left b.1 b.2 a.2 ≤ 0) (hb : left a.1 a.2 b.1 * left a.1 a.2 b.2 ≤ 0) : ∃ v, onLine a v = true ∧ onLine b v = true := by
  obtain ⟨s, s0, s1, es⟩ := weak_zero ha
  obtain ⟨u, u0, u1, eu⟩ := weak_zero hb
  by_cases hD : (a.2.x - a.1.x) * (b.2.y - b.1.y) - (a.2.y - a.1.y) * (b.2.x - b.1.x) = 0
  · have e1 : left b.1 b.2 a.1 = 0 := by
      have : left b.1 b.2 a.2 - left b.1 b.2 a.1 = 0 := by
        unfold left
        grind
      grind
    have e2 : left a.1 a.2 b.1 = 0 := by
      have : left a.1 a.2 b.2 - left a.1 a.2 b.1 = 0 := by
        unfold left
        grind
      grind
    have e1' := e1
    unfold left at e1 e2
    by_cases dx : a.2.x - a.1.x = 0
    · by_cases dy : a.2.y - a.1.y = 0
      · refine ⟨a.1, param_on (u := 0) (by decide) (by decide) (by grind) (by grind), ?_⟩
        unfold onLine between
        simp only [Bool.and_eq_true, decide_eq_true_eq, beq_iff_eq]
        exact ⟨e1', by grind, by grind⟩
      · obtain ⟨Y, y1, y2, y3, y4⟩ : ∃ Y, min a.1.y a.2.y ≤ Y ∧ Y ≤ max a.1.y a.2.y ∧ min b.1.y b.2.y ≤ Y ∧ Y ≤ max b.1.y b.2.y := ⟨max (min a.1.y a.2.y) (min b.1.y b.2.y), by grind, by grind, by grind, by grind⟩
        obtain ⟨t, t0, t1, et⟩ := frac01 (w := Y - a.1.y) dy (by grind) (by grind)
        refine ⟨⟨a.1.x + t * (a.2.x - a.1.x), a.1.y + t * (a.2.y - a.1.y), 0⟩, param_on (u := t) t0 t1 rfl rfl, ?_⟩
        by_cases by0 : b.2.y - b.1.y = 0
        · have : (a.2.y - a.1.y) * (b.2.x - b.1.x) = 0 := by grind
          have bx0 := mul_cancel0 dy this
          have : (a.2.y - a.1.y) * (b.1.x - a.1.x) = 0 := by grind
          have := mul_cancel0 dy this
          refine param_on (u := 0) (by decide) (by decide) ?_ ?_
          · show a.1.x + t * (a.2.x - a.1.x) = _
            rw [dx]
            grind
          · show a.1.y + t * (a.2.y - a.1.y) = _
            grind
        · obtain ⟨t', t0', t1', et'⟩ := frac01 (w := Y - b.1.y) by0 (by grind) (by grind)
          refine param_on (u := t') t0' t1' ?_ ?_
          · show a.1.x + t * (a.2.x - a.1.x) = _
            have q1 : (a.2.y - a.1.y) * (b.1.x - a.1.x) = 0 := by grind
            have q2 : (a.2.y - a.1.y) * (b.2.x - b.1.x) = 0 := by grind
            have := mul_cancel0 dy q1
            have := mul_cancel0 dy q2
            rw [dx, this]
            grind
          · show a.1.y + t * (a.2.y - a.1.y) = _
            grind
    · obtain ⟨X, x1, x2, x3, x4⟩ : ∃ X, min a.1.x a.2.x ≤ X ∧ X ≤ max a.1.x a.2.x ∧ min b.1.x b.2.x ≤ X ∧ X ≤ max b.1.x b.2.x := ⟨max (min a.1.x a.2.x) (min b.1.x b.2.x), by grind, by grind, by grind, by grind⟩
      obtain ⟨t, t0, t1, et⟩ := frac01 (w := X - a.1.x) dx (by grind) (by grind)
      refine ⟨⟨a.1.x + t * (a.2.x - a.1.x), a.1.y + t * (a.2.y - a.1.y), 0⟩, param_on (u := t) t0 t1 rfl rfl, ?_⟩
      by_cases bx0 : b.2.x - b.1.x = 0
      · have : (a.2.x - a.1.x) * (b.2.y - b.1.y) = 0 := by grind
        have by0 := mul_cancel0 dx this
        refine param_on (u := 0) (by decide) (by decide) ?_ ?_
        · show a.1.x + t * (a.2.x - a.1.x) = _
          grind
        · show a.1.y + t * (a.2.y - a.1.y) = _
          have : (a.2.x - a.1.x) * (a.1.y + t * (a.2.y - a.1.y) - b.1.y) = 0 := by
            have : X = b.1.x := by grind
            grind
          have := mul_cancel0 dx this
          grind
      · obtain ⟨t', t0', t1', et'⟩ := frac01 (w := X - b.1.x) bx0 (by grind) (by grind)
        refine param_on (u := t') t0' t1' ?_ ?_
        · show a.1.x + t * (a.2.x - a.1.x) = _
          grind
        · show a.1.y + t * (a.2.y - a.1.y) = _
          have : (a.2.x - a.1.x) * (a.1.y + t * (a.2.y - a.1.y) - (b.1.y + t' * (b.2.y - b.1.y))) = 0 := by grind
          have := mul_cancel0 dx this
          grind
  · refine ⟨onWay a.1 a.2 s, param_on (u := s) s0 s1 rfl rfl, param_on (u := u) u0 u1 ?_ ?_⟩
    · show a.1.x + s * (a.2.x - a.1.x) = b.1.x + u * (b.2.x - b.1.x)
      unfold left at es eu
      have : ((a.2.x - a.1.x) * (b.2.y - b.1.y) - (a.2.y - a.1.y) * (b.2.x - b.1.x)) * (a.1.x + s * (a.2.x - a.1.x) - (b.1.x + u * (b.2.x - b.1.x))) = 0 := by grind
      have := mul_cancel0 hD this
      grind
    · show a.1.y + s * (a.2.y - a.1.y) = b.1.y + u * (b.2.y - b.1.y)
      unfold left at es eu
      have : ((a.2.x - a.1.x) * (b.2.y - b.1.y) - (a.2.y - a.1.y) * (b.2.x - b.1.x)) * (a.1.y + s * (a.2.y - a.1.y) - (b.1.y + u * (b.2.y - b.1.y))) = 0 := by grind
      have := mul_cancel0 hD this
      grind
theorem pt_common {a b : Pt × Pt} {v : Pt} (h1 : onLine a v = true) (h2 : onLine b v = true) : (min a.1.x a.2.x ≤ max b.1.x b.2.x ∧ min b.1.x b.2.x ≤ max a.1.x a.2.x) ∧ (min a.1.y a.2.y ≤ max b.1.y b.2.y ∧ min b.1.y b.2.y ≤ max a.1.y a.2.y) ∧
    left b.1 b.2 a.1 * left b.1 b.2 a.2 ≤ 0 ∧ left a.1 a.2 b.1 * left a.1 a.2 b.2 ≤ 0 := by
  have g1 := h1
  have g2 := h2
  unfold onLine between at g1 g2
  simp only [Bool.and_eq_true, decide_eq_true_eq, beq_iff_eq] at g1 g2
  obtain ⟨s, s0, s1, ex, ey⟩ := on_param h1
  obtain ⟨u, u0, u1, fx, fy⟩ := on_param h2
  refine ⟨by grind, by grind, ?_, ?_⟩
  · refine zero_weak s0 s1 ?_
    have := g2.1
    unfold left at this ⊢
    grind
  · refine zero_weak u0 u1 ?_
    have := g1.1
    unfold left at this ⊢
    grind
theorem common_iff (a b : Ln) : common a b = true ↔ ∃ v, onLine a.pts v = true ∧ onLine b.pts v = true := by
  have e2 : common a b = true ↔ (((min a.x0 a.x1 ≤ max b.x0 b.x1 ∧ min b.x0 b.x1 ≤ max a.x0 a.x1) ∧ (min a.y0 a.y1 ≤ max b.y0 b.y1 ∧ min b.y0 b.y1 ≤ max a.y0 a.y1)) ∧ side b a.x0 a.y0 * side b a.x1 a.y1 ≤ 0 ∧ side a b.x0 b.y0 * side a b.x1 b.y1 ≤ 0) := by
    unfold common overX overY reach
    simp only [Bool.and_eq_true, decide_eq_true_eq, minmaxI, ovl]
  have c : ∀ {x y : Int}, ((x : Rat) * (y : Rat) ≤ 0 ↔ x * y ≤ 0) := fun {x y} => by
    rw [← Rat.intCast_mul]
    exact Rat.intCast_nonpos
  have l1 : left b.pts.1 b.pts.2 a.pts.1 = ((side b a.x0 a.y0 : Int) : Rat) := left_cast b a.x0 a.y0 0
  have l2 : left b.pts.1 b.pts.2 a.pts.2 = ((side b a.x1 a.y1 : Int) : Rat) := left_cast b a.x1 a.y1 0
  have l3 : left a.pts.1 a.pts.2 b.pts.1 = ((side a b.x0 b.y0 : Int) : Rat) := left_cast a b.x0 b.y0 0
  have l4 : left a.pts.1 a.pts.2 b.pts.2 = ((side a b.x1 b.y1 : Int) : Rat) := left_cast a b.x1 b.y1 0
  rw [e2]
  constructor
  · rintro ⟨⟨⟨x1, x2⟩, y1, y2⟩, h1, h2⟩
    refine common_pt (a := a.pts) (b := b.pts) ⟨?_, ?_⟩ ⟨?_, ?_⟩ (by rw [l1, l2]; exact c.mpr h1) (by rw [l3, l4]; exact c.mpr h2)
    · show min (a.x0 : Rat) (a.x1 : Rat) ≤ max (b.x0 : Rat) (b.x1 : Rat)
      rw [min_cast, max_cast, Rat.intCast_le_intCast]
      exact x1
    · show min (b.x0 : Rat) (b.x1 : Rat) ≤ max (a.x0 : Rat) (a.x1 : Rat)
      rw [min_cast, max_cast, Rat.intCast_le_intCast]
      exact x2
    · show min (a.y0 : Rat) (a.y1 : Rat) ≤ max (b.y0 : Rat) (b.y1 : Rat)
      rw [min_cast, max_cast, Rat.intCast_le_intCast]
      exact y1
    · show min (b.y0 : Rat) (b.y1 : Rat) ≤ max (a.y0 : Rat) (a.y1 : Rat)
      rw [min_cast, max_cast, Rat.intCast_le_intCast]
      exact y2
  · rintro ⟨v, h1, h2⟩
    obtain ⟨⟨x1, x2⟩, ⟨y1, y2⟩, p1, p2⟩ := pt_common h1 h2
    rw [l1, l2] at p1
    rw [l3, l4] at p2
    have x1 : min (a.x0 : Rat) (a.x1 : Rat) ≤ max (b.x0 : Rat) (b.x1 : Rat) := x1
    have x2 : min (b.x0 : Rat) (b.x1 : Rat) ≤ max (a.x0 : Rat) (a.x1 : Rat) := x2
    have y1 : min (a.y0 : Rat) (a.y1 : Rat) ≤ max (b.y0 : Rat) (b.y1 : Rat) := y1
    have y2 : min (b.y0 : Rat) (b.y1 : Rat) ≤ max (a.y0 : Rat) (a.y1 : Rat) := y2
    rw [min_cast, max_cast, Rat.intCast_le_intCast] at x1 x2 y1 y2
    exact ⟨⟨⟨x1, x2⟩, y1, y2⟩, c.mp p1, c.mp p2⟩
theorem r_neg_cases {a b : Rat} (h : a * b < 0) : (a < 0 ∧ 0 < b) ∨ (0 < a ∧ b < 0) := by
  by_cases ha : a < 0
  · left
    refine ⟨ha, Rat.not_le.mp fun q => ?_⟩
    have := Rat.mul_nonneg (show 0 ≤ -a by grind) (show 0 ≤ -b by grind)
    grind
  · by_cases hb : b < 0
    · right
      refine ⟨Rat.not_le.mp fun q => ?_, hb⟩
      have : a = 0 := by grind
      rw [this, Rat.zero_mul] at h
      grind
    · have := Rat.mul_nonneg (show 0 ≤ a by grind) (show 0 ≤ b by grind)
      grind
theorem start_on (l : Pt × Pt) : onLine l l.1 = true := param_on (u := 0) (by decide) (by decide) (by grind) (by grind)
theorem end_on (l : Pt × Pt) : onLine l l.2 = true := param_on (u := 1) (by decide) (by decide) (by grind) (by grind)
theorem cross_at {a b : Pt × Pt} (h1 : left a.1 a.2 b.1 * left a.1 a.2 b.2 < 0) (h2 : left b.1 b.2 a.1 * left b.1 b.2 a.2 < 0) : ∃ v, onLine a v = true ∧ onLine b v = true := by
  obtain ⟨s, s0, s1, es⟩ := weak_zero (Rat.le_of_lt h2)
  obtain ⟨u, u0, u1, eu⟩ := weak_zero (Rat.le_of_lt h1)
  have hD : (a.2.x - a.1.x) * (b.2.y - b.1.y) - (a.2.y - a.1.y) * (b.2.x - b.1.x) ≠ 0 := by
    have e : left a.1 a.2 b.2 - left a.1 a.2 b.1 = (a.2.x - a.1.x) * (b.2.y - b.1.y) - (a.2.y - a.1.y) * (b.2.x - b.1.x) := by
      unfold left
      grind
    rw [← e]
    rcases r_neg_cases h1 with ⟨c1, c2⟩ | ⟨c1, c2⟩ <;> grind
  refine ⟨⟨a.1.x + s * (a.2.x - a.1.x), a.1.y + s * (a.2.y - a.1.y), 0⟩, param_on (u := s) s0 s1 rfl rfl, param_on (u := u) u0 u1 ?_ ?_⟩
  · show a.1.x + s * (a.2.x - a.1.x) = b.1.x + u * (b.2.x - b.1.x)
    unfold left at es eu
    have : ((a.2.x - a.1.x) * (b.2.y - b.1.y) - (a.2.y - a.1.y) * (b.2.x - b.1.x)) * (a.1.x + s * (a.2.x - a.1.x) - (b.1.x + u * (b.2.x - b.1.x))) = 0 := by grind
    have := mul_cancel0 hD this
    grind
  · show a.1.y + s * (a.2.y - a.1.y) = b.1.y + u * (b.2.y - b.1.y)
    unfold left at es eu
    have : ((a.2.x - a.1.x) * (b.2.y - b.1.y) - (a.2.y - a.1.y) * (b.2.x - b.1.x)) * (a.1.y + s * (a.2.y - a.1.y) - (b.1.y + u * (b.2.y - b.1.y))) = 0 := by grind
    have := mul_cancel0 hD this
    grind
theorem on_by_x {l : Pt × Pt} {v : Pt} (hx : l.2.x - l.1.x ≠ 0) (h1 : min l.1.x l.2.x ≤ v.x) (h2 : v.x ≤ max l.1.x l.2.x) (h0 : left l.1 l.2 v = 0) : onLine l v = true := by
  obtain ⟨t, t0, t1, e⟩ := frac01 (w := v.x - l.1.x) hx (by grind) (by grind)
  refine param_on (u := t) t0 t1 (by grind) ?_
  unfold left at h0
  have : (l.2.x - l.1.x) * (v.y - (l.1.y + t * (l.2.y - l.1.y))) = 0 := by grind
  have := mul_cancel0 hx this
  grind
theorem on_by_y {l : Pt × Pt} {v : Pt} (hy : l.2.y - l.1.y ≠ 0) (h1 : min l.1.y l.2.y ≤ v.y) (h2 : v.y ≤ max l.1.y l.2.y) (h0 : left l.1 l.2 v = 0) : onLine l v = true := by
  obtain ⟨t, t0, t1, e⟩ := frac01 (w := v.y - l.1.y) hy (by grind) (by grind)
  refine param_on (u := t) t0 t1 ?_ (by grind)
  unfold left at h0
  have : (l.2.y - l.1.y) * (v.x - (l.1.x + t * (l.2.x - l.1.x))) = 0 := by grind
  have := mul_cancel0 hy this
  grind
/-- two lines along each other with a point in common: an end of one is on the other -/
theorem along_end {a b : Pt × Pt} (ha : a.2.x - a.1.x ≠ 0 ∨ a.2.y - a.1.y ≠ 0) (hb : b.2.x - b.1.x ≠ 0 ∨ b.2.y - b.1.y ≠ 0) (hD : (a.2.x - a.1.x) * (b.2.y - b.1.y) - (a.2.y - a.1.y) * (b.2.x - b.1.x) = 0) {v : Pt} (h1 : onLine a v = true) (h2 : onLine b v = true) :
    onLine a b.1 = true ∨ onLine a b.2 = true ∨ onLine b a.1 = true ∨ onLine b a.2 = true := by
  have g1 := h1
  have g2 := h2
  unfold onLine between at g1 g2
  simp only [Bool.and_eq_true, decide_eq_true_eq, beq_iff_eq] at g1 g2
  obtain ⟨za, ⟨ax1, ax2⟩, ay1, ay2⟩ := g1
  obtain ⟨zb, ⟨bx1, bx2⟩, by1, by2⟩ := g2
  obtain ⟨s, s0, s1, sx, sy⟩ := on_param h1
  obtain ⟨u, u0, u1, ux, uy⟩ := on_param h2
  have l1 : left a.1 a.2 b.1 = 0 := by
    unfold left at za ⊢
    rw [ux, uy] at za
    grind
  have l2 : left a.1 a.2 b.2 = 0 := by
    unfold left at za ⊢
    rw [ux, uy] at za
    grind
  have l3 : left b.1 b.2 a.1 = 0 := by
    unfold left at zb ⊢
    rw [sx, sy] at zb
    grind
  have l4 : left b.1 b.2 a.2 = 0 := by
    unfold left at zb ⊢
    rw [sx, sy] at zb
    grind
  by_cases dx : a.2.x - a.1.x = 0
  · have dy : a.2.y - a.1.y ≠ 0 := by
      rcases ha with q | q
      · exact absurd dx q
      · exact q
    have bx0 : b.2.x - b.1.x = 0 := by
      have : (a.2.y - a.1.y) * (b.2.x - b.1.x) = 0 := by grind
      exact mul_cancel0 dy this
    have dy' : b.2.y - b.1.y ≠ 0 := by
      rcases hb with q | q
      · exact absurd bx0 q
      · exact q
    by_cases o : min b.1.y b.2.y ≤ min a.1.y a.2.y
    · by_cases c : a.1.y ≤ a.2.y
      · exact .inr (.inr (.inl (on_by_y dy' (by grind) (by grind) l3)))
      · exact .inr (.inr (.inr (on_by_y dy' (by grind) (by grind) l4)))
    · by_cases c : b.1.y ≤ b.2.y
      · exact .inl (on_by_y dy (by grind) (by grind) l1)
      · exact .inr (.inl (on_by_y dy (by grind) (by grind) l2))
  · have dx' : b.2.x - b.1.x ≠ 0 := fun z => by
      have : (a.2.x - a.1.x) * (b.2.y - b.1.y) = 0 := by grind
      have := mul_cancel0 dx this
      rcases hb with q | q
      · exact q z
      · exact q this
    by_cases o : min b.1.x b.2.x ≤ min a.1.x a.2.x
    · by_cases c : a.1.x ≤ a.2.x
      · exact .inr (.inr (.inl (on_by_x dx' (by grind) (by grind) l3)))
      · exact .inr (.inr (.inr (on_by_x dx' (by grind) (by grind) l4)))
    · by_cases c : b.1.x ≤ b.2.x
      · exact .inl (on_by_x dx (by grind) (by grind) l1)
      · exact .inr (.inl (on_by_x dx (by grind) (by grind) l2))
theorem meet_iff {a b : Pt × Pt} (ha : a.2.x - a.1.x ≠ 0 ∨ a.2.y - a.1.y ≠ 0) (hb : b.2.x - b.1.x ≠ 0 ∨ b.2.y - b.1.y ≠ 0) : meet a b = true ↔ ∃ v, onLine a v = true ∧ onLine b v = true := by
  unfold meet
  simp only [Bool.or_eq_true, Bool.and_eq_true, decide_eq_true_eq]
  constructor
  · rintro (⟨h1, h2⟩ | h | h | h | h)
    · exact cross_at h1 h2
    · exact ⟨b.1, h, start_on b⟩
    · exact ⟨b.2, h, end_on b⟩
    · exact ⟨a.1, start_on a, h⟩
    · exact ⟨a.2, end_on a, h⟩
  · rintro ⟨v, h1, h2⟩
    by_cases hD : (a.2.x - a.1.x) * (b.2.y - b.1.y) - (a.2.y - a.1.y) * (b.2.x - b.1.x) = 0
    · exact .inr (along_end ha hb hD h1 h2)
    · obtain ⟨s, s0, s1, sx, sy⟩ := on_param h1
      obtain ⟨u, u0, u1, ux, uy⟩ := on_param h2
      by_cases q1 : s = 0
      · exact .inr (.inr (.inr (.inl (by rw [onLine_plan (w := v) (by rw [sx, q1]; grind) (by rw [sy, q1]; grind)]; exact h2))))
      · by_cases q2 : s = 1
        · exact .inr (.inr (.inr (.inr (by rw [onLine_plan (w := v) (by rw [sx, q2]; grind) (by rw [sy, q2]; grind)]; exact h2))))
        · by_cases q3 : u = 0
          · exact .inr (.inl (by rw [onLine_plan (w := v) (by rw [ux, q3]; grind) (by rw [uy, q3]; grind)]; exact h1))
          · by_cases q4 : u = 1
            · exact .inr (.inr (.inl (by rw [onLine_plan (w := v) (by rw [ux, q4]; grind) (by rw [uy, q4]; grind)]; exact h1)))
            · left
              generalize eD : (a.2.x - a.1.x) * (b.2.y - b.1.y) - (a.2.y - a.1.y) * (b.2.x - b.1.x) = D at hD
              have sq : 0 < D * D := by
                rcases Rat.le_total (a := 0) (b := D) with q | q
                · exact Rat.mul_pos (by grind) (by grind)
                · exact r_neg_neg (by grind) (by grind)
              have e1 : left a.1 a.2 b.1 = -(u * D) := by
                rw [← eD]
                unfold left
                grind
              have e2 : left a.1 a.2 b.2 = (1 - u) * D := by
                rw [← eD]
                unfold left
                grind
              have e3 : left b.1 b.2 a.1 = s * D := by
                rw [← eD]
                unfold left
                grind
              have e4 : left b.1 b.2 a.2 = -((1 - s) * D) := by
                rw [← eD]
                unfold left
                grind
              rw [e1, e2, e3, e4]
              have m1 := Rat.mul_pos (Rat.mul_pos (show 0 < u by grind) (show 0 < 1 - u by grind)) sq
              have m2 := Rat.mul_pos (Rat.mul_pos (show 0 < s by grind) (show 0 < 1 - s by grind)) sq
              exact ⟨by grind, by grind⟩
theorem dir_ne {l : Ln} (h : hasDir l = true) : l.pts.2.x - l.pts.1.x ≠ 0 ∨ l.pts.2.y - l.pts.1.y ≠ 0 := by
  have cx : l.dx ≠ 0 → l.pts.2.x - l.pts.1.x ≠ 0 := fun q z => by
    have z : ((l.x1 : Int) : Rat) - ((l.x0 : Int) : Rat) = 0 := z
    rw [← Rat.intCast_sub] at z
    exact q (Rat.intCast_eq_zero_iff.mp z)
  have cy : l.dy ≠ 0 → l.pts.2.y - l.pts.1.y ≠ 0 := fun q z => by
    have z : ((l.y1 : Int) : Rat) - ((l.y0 : Int) : Rat) = 0 := z
    rw [← Rat.intCast_sub] at z
    exact q (Rat.intCast_eq_zero_iff.mp z)
  rcases hasDir_cases h with ⟨_, b⟩ | ⟨_, b⟩ | ⟨_, b⟩ | ⟨_, b⟩
  · exact .inl (cx b)
  · exact .inr (cy b)
  · exact .inl (cx b)
  · exact .inl (cx b)
theorem meet_pts {a b : Ln} (ha : hasDir a = true) (hb : hasDir b = true) : meet a.pts b.pts = common a b := by
  rw [Bool.eq_iff_iff, common_iff, meet_iff (dir_ne ha) (dir_ne hb)]
end Rm

set_option Elab.async false
set_option linter.all false
namespace Rm
open Eh
/-- how many corners -/
def cnt (ns : List Int) : Nat := (ns.length - 3) / 3
def at_ (ns : List Int) (i : Nat) : Int := ns.getD i 0
/-- line i of the list -/
def wallOf (ns : List Int) (n i : Nat) : Ln := ⟨at_ ns (3 + 3 * i), at_ ns (3 + 3 * i + 1), at_ ns (3 + 3 * ((i + 1) % n)), at_ ns (3 + 3 * ((i + 1) % n) + 1)⟩
def linesM (ns : List Int) : List Ln := (List.range (cnt ns)).map (wallOf ns (cnt ns))
def okStuff (z : Int) : Bool := decide (0 ≤ z) && decide (z ≤ 7)
def okCoord (z : Int) : Bool := decide (0 ≤ z) && decide (z ≤ 4095)
def whole (ns : List Int) : Bool := decide (3 ≤ ns.length) && (decide (ns.length % 3 = 0) && (decide (3 ≤ cnt ns) && decide (cnt ns ≤ 64)))
def head (ns : List Int) : Bool := (decide (1 ≤ at_ ns 0) && decide (at_ ns 0 ≤ 4095)) && (okStuff (at_ ns 1) && okStuff (at_ ns 2))
def okCorner (ns : List Int) (i : Nat) : Bool := okCoord (at_ ns (3 + 3 * i)) && (okCoord (at_ ns (3 + 3 * i + 1)) && okStuff (at_ ns (3 + 3 * i + 2)))
def badCorner (ns : List Int) : Option Nat := (List.range (cnt ns)).find? fun i => !okCorner ns i
def lnAt (ls : List Ln) (i : Nat) : Ln := ls.getD i ⟨0, 0, 0, 0⟩
def wrongLine (ls : List Ln) : Option Nat := (List.range ls.length).find? fun i => !hasDir (lnAt ls i)
def goingOn (ls : List Ln) : Option Nat := (List.range ls.length).find? fun i => par (lnAt ls i) (lnAt ls ((i + 1) % ls.length))
def apart (n i j : Nat) : Bool := decide (1 < ((j : Int) - (i : Int)) % (n : Int)) && decide (((j : Int) - (i : Int)) % (n : Int) < (n : Int) - 1)
def isMet (ls : List Ln) (i : Nat) : Bool := (List.range ls.length).any fun j => apart ls.length i j && common (lnAt ls i) (lnAt ls j)
def lineMet (ls : List Ln) : Option Nat := (List.range ls.length).find? fun i => isMet ls i
def area (ls : List Ln) : Int := (ls.map fun l => l.x0 * l.y1 - l.x1 * l.y0).sum
def faultL (ls : List Ln) : Option (Nat × Nat) :=
  match wrongLine ls with
  | some i => some (4, i)
  | none => match goingOn ls with
    | some i => some (5, i)
    | none => match lineMet ls with
      | some i => some (6, i)
      | none => if area ls ≤ 0 then some (7, 0) else none
def faultM (ns : List Int) : Option (Nat × Nat) :=
  if whole ns = false then some (1, 0)
  else if head ns = false then some (2, 0)
  else match badCorner ns with
    | some i => some (3, i)
    | none => faultL (linesM ns)

/-! the corners of a list -/
def cornerM (l : List Int) (i : Nat) : Corner := ⟨l.getD (3 * i) 0, l.getD (3 * i + 1) 0, stuffOf (l.getD (3 * i + 2) 0)⟩
theorem cornersOf_eq : ∀ (l : List Int), cornersOf l = if l.length % 3 = 0 then some ((List.range (l.length / 3)).map (cornerM l)) else none
  | [] => rfl
  | [_] => rfl
  | [_, _] => rfl
  | x :: y :: s :: l => by
    have ih := cornersOf_eq l
    show (cornersOf l).map _ = _
    rw [ih]
    have e1 : (x :: y :: s :: l).length = l.length + 3 := rfl
    have e2 : (l.length + 3) % 3 = l.length % 3 := by omega
    have e3 : (l.length + 3) / 3 = l.length / 3 + 1 := by omega
    rw [e1, e2, e3]
    by_cases h : l.length % 3 = 0
    · rw [if_pos h, if_pos h, List.range_succ_eq_map, List.map_cons, List.map_map]
      rfl
    · rw [if_neg h, if_neg h]
      rfl
theorem cornerM_cons (h f c : Int) (l : List Int) (i : Nat) : cornerM l i = ⟨at_ (h :: f :: c :: l) (3 + 3 * i), at_ (h :: f :: c :: l) (3 + 3 * i + 1), stuffOf (at_ (h :: f :: c :: l) (3 + 3 * i + 2))⟩ := by
  unfold at_ cornerM
  rw [show 3 + 3 * i = 3 * i + 1 + 1 + 1 by omega]
  rfl
theorem corner_at (r : Room) (n : Nat) (g : Nat → Corner) (hr : r.corners = (List.range n).map g) (i : Nat) (hn : 0 < n) : r.corner i = g (i % n) := by
  have e : r.n = n := by unfold Room.n; rw [hr, List.length_map, List.length_range]
  unfold Room.corner
  rw [e, hr, List.getD_eq_getElem?_getD, List.getElem?_map, List.getElem?_range (Nat.mod_lt _ hn)]
  rfl
theorem stuff_ok (z : Int) : decide (STUFFS ≤ stuffOf z) = !okStuff z := by
  unfold okStuff stuffOf STUFFS
  rw [Bool.eq_iff_iff]
  simp only [decide_eq_true_eq, Bool.not_eq_true', Bool.and_eq_false_iff, decide_eq_false_iff_not]
  split <;> omega
theorem find_congr {α : Type} {p q : α → Bool} : ∀ {l : List α}, (∀ a ∈ l, p a = q a) → l.find? p = l.find? q
  | [], _ => rfl
  | a :: l, h => by
    rw [List.find?_cons, List.find?_cons, h a (List.mem_cons_self), find_congr fun b hb => h b (List.mem_cons_of_mem _ hb)]
theorem any_congr' {α : Type} {p q : α → Bool} : ∀ {l : List α}, (∀ a ∈ l, p a = q a) → l.any p = l.any q
  | [], _ => rfl
  | a :: l, h => by
    rw [List.any_cons, List.any_cons, h a (List.mem_cons_self), any_congr' fun b hb => h b (List.mem_cons_of_mem _ hb)]
theorem lnAt_map (g : Nat → Ln) (n i : Nat) (h : i < n) : lnAt ((List.range n).map g) i = g i := by
  unfold lnAt
  rw [List.getD_eq_getElem?_getD, List.getElem?_map, List.getElem?_range h]
  rfl
theorem apart_eq {n i j : Nat} (hn : 3 ≤ n) (hi : i < n) (hj : j < n) : (!neighbours n i j) = apart n i j := by
  unfold neighbours apart
  rw [Bool.eq_iff_iff]
  simp only [Bool.not_eq_true', Bool.or_eq_false_iff, beq_eq_false_iff_ne, ne_eq, Bool.and_eq_true, decide_eq_true_eq]
  have e : ((j : Int) - (i : Int)) % (n : Int) = if i ≤ j then (j : Int) - i else (j : Int) - i + n := by
    split
    · exact Int.emod_eq_of_lt (by omega) (by omega)
    · rw [← Int.add_emod_right, Int.emod_eq_of_lt (by omega) (by omega)]
  have e1 : (i + 1) % n = if i + 1 = n then 0 else i + 1 := by
    split
    · rename_i h; rw [h, Nat.mod_self]
    · exact Nat.mod_eq_of_lt (by omega)
  have e2 : (j + 1) % n = if j + 1 = n then 0 else j + 1 := by
    split
    · rename_i h; rw [h, Nat.mod_self]
    · exact Nat.mod_eq_of_lt (by omega)
  rw [e, e1, e2]
  split <;> split <;> split <;> omega
theorem foldr_sum : ∀ (l : List Int), l.foldr (fun (a b : Int) => a + b) 0 = l.sum
  | [] => rfl
  | a :: l => by rw [List.foldr_cons, List.sum_cons, foldr_sum l]
theorem find_none_all {p : Nat → Bool} {n : Nat} (h : (List.range n).find? p = none) {i : Nat} (hi : i < n) : p i = false := by
  have := List.find?_eq_none.mp h i (List.mem_range.mpr hi)
  simpa using this

structure RoomIs (r : Room) (ns : List Int) : Prop where
  n : r.n = cnt ns
  h : r.h = at_ ns 0
  corner : ∀ i, i < cnt ns → r.corner i = ⟨at_ ns (3 + 3 * i), at_ ns (3 + 3 * i + 1), stuffOf (at_ ns (3 + 3 * i + 2))⟩
  next : ∀ i, i < cnt ns → r.corner (i + 1) = r.corner ((i + 1) % cnt ns)
theorem RoomIs.line {r : Room} {ns : List Int} (R : RoomIs r ns) (hn : 0 < cnt ns) {i : Nat} (hi : i < cnt ns) : r.line i = (wallOf ns (cnt ns) i).pts := by
  unfold Room.line
  rw [R.next i hi, R.corner i hi, R.corner _ (Nat.mod_lt _ hn)]
  rfl
theorem line_mod (r : Room) (i : Nat) : r.line (i % r.n) = r.line i := by
  unfold Room.line Room.corner
  rw [Nat.mod_mod, Nat.add_mod, Nat.mod_mod, ← Nat.add_mod]
theorem fault_lines {r : Room} {ns : List Int} (R : RoomIs r ns) (hn : 3 ≤ cnt ns) :
    (match (List.range r.n).find? fun (i : Nat) => !dirOk (r.line i) with
    | some i => some (⟨4, i⟩ : Fault)
    | none => match (List.range r.n).find? fun (i : Nat) => alongside (r.line i) (r.line (i + 1)) with
      | some i => some ⟨5, i⟩
      | none => match (List.range r.n).find? fun (i : Nat) => (List.range r.n).any fun (j : Nat) => !neighbours r.n i j && meet (r.line i) (r.line j) with
        | some i => some ⟨6, i⟩
        | none => if r.area2 ≤ 0 then some ⟨7, 0⟩ else none) = (faultL (linesM ns)).map fun p => (⟨p.1, p.2⟩ : Fault) := by
  have hn0 : 0 < cnt ns := by omega
  have len : (linesM ns).length = cnt ns := by unfold linesM; rw [List.length_map, List.length_range]
  have la : ∀ i, i < cnt ns → lnAt (linesM ns) i = wallOf ns (cnt ns) i := fun i hi => lnAt_map _ _ _ hi
  have e4 : ((List.range r.n).find? fun (i : Nat) => !dirOk (r.line i)) = wrongLine (linesM ns) := by
    unfold wrongLine
    rw [len, R.n]
    refine find_congr fun i hi => ?_
    rw [List.mem_range] at hi
    rw [R.line hn0 hi, dirOk_pts, la i hi]
  have e5 : ((List.range r.n).find? fun (i : Nat) => alongside (r.line i) (r.line (i + 1))) = goingOn (linesM ns) := by
    unfold goingOn
    rw [len, R.n]
    refine find_congr fun i hi => ?_
    rw [List.mem_range] at hi
    have hm : (i + 1) % cnt ns < cnt ns := Nat.mod_lt _ hn0
    rw [← line_mod r (i + 1), R.n, R.line hn0 hi, R.line hn0 hm, alongside_pts, la i hi, la _ hm]
  have e7 : r.area2 = area (linesM ns) := by
    unfold Room.area2 area linesM
    rw [foldr_sum, List.map_map, R.n]
    refine congrArg List.sum (List.map_congr_left fun i hi => ?_)
    rw [List.mem_range] at hi
    rw [R.next i hi, R.corner i hi, R.corner _ (Nat.mod_lt _ hn0)]
    rfl
  unfold faultL
  rw [e4, e5, e7]
  cases h4 : wrongLine (linesM ns) with
  | some i => rfl
  | none =>
    have ok : ∀ i, i < cnt ns → hasDir (wallOf ns (cnt ns) i) = true := fun i hi => by
      have := find_none_all h4 (i := i) (by rw [len]; exact hi)
      rw [la i hi] at this
      simpa using this
    have e6 : ((List.range r.n).find? fun (i : Nat) => (List.range r.n).any fun (j : Nat) => !neighbours r.n i j && meet (r.line i) (r.line j)) = lineMet (linesM ns) := by
      unfold lineMet isMet
      rw [len, R.n]
      refine find_congr fun i hi => any_congr' fun j hj => ?_
      rw [List.mem_range] at hi hj
      rw [R.line hn0 hi, R.line hn0 hj, apart_eq hn hi hj, la i hi, la j hj, meet_pts (ok i hi) (ok j hj)]
    rw [e6]
    cases goingOn (linesM ns) with
    | some i => rfl
    | none =>
      cases lineMet (linesM ns) with
      | some i => rfl
      | none =>
        show (if area (linesM ns) ≤ 0 then some (⟨7, 0⟩ : Fault) else none) = (if area (linesM ns) ≤ 0 then some (7, 0) else none).map _
        split <;> rfl

/-- the room that stands behind a list of whole corners -/
def roomM (ns : List Int) : Room := ⟨at_ ns 0, stuffOf (at_ ns 1), stuffOf (at_ ns 2), (List.range (cnt ns)).map fun i => ⟨at_ ns (3 + 3 * i), at_ ns (3 + 3 * i + 1), stuffOf (at_ ns (3 + 3 * i + 2))⟩⟩
theorem roomM_n (ns : List Int) : (roomM ns).n = cnt ns := by
  unfold Room.n roomM
  rw [List.length_map, List.length_range]
theorem roomM_is {ns : List Int} (hn : 0 < cnt ns) : RoomIs (roomM ns) ns := by
  refine ⟨roomM_n ns, rfl, fun i hi => ?_, fun i hi => ?_⟩
  · rw [corner_at (roomM ns) (cnt ns) _ rfl i hn, Nat.mod_eq_of_lt hi]
  · unfold Room.corner
    rw [roomM_n, Nat.mod_mod]

theorem roomOf_eq (ns : List Int) : roomOf ns = match faultM ns with
    | some p => .error (⟨p.1, p.2⟩ : Fault)
    | none => .ok (roomM ns) := by
  match ns with
  | [] => rfl
  | [_] => rfl
  | [_, _] => rfl
  | h :: f :: c :: l =>
    have len : (h :: f :: c :: l).length = l.length + 3 := rfl
    have cn : cnt (h :: f :: c :: l) = l.length / 3 := by
      unfold cnt
      rw [len, Nat.add_sub_cancel]
    unfold roomOf faultM
    show (match cornersOf l with
      | none => Except.error (⟨1, 0⟩ : Fault)
      | some k => match (⟨h, stuffOf f, stuffOf c, k⟩ : Room).fault with
        | some e => Except.error e
        | none => Except.ok (⟨h, stuffOf f, stuffOf c, k⟩ : Room)) = _
    rw [cornersOf_eq]
    by_cases h3 : l.length % 3 = 0
    · rw [if_pos h3]
      have er : (⟨h, stuffOf f, stuffOf c, (List.range (l.length / 3)).map (cornerM l)⟩ : Room) = roomM (h :: f :: c :: l) := by
        unfold roomM
        rw [cn]
        congr 1
        exact List.map_congr_left fun i _ => cornerM_cons h f c l i
      show (match (⟨h, stuffOf f, stuffOf c, (List.range (l.length / 3)).map (cornerM l)⟩ : Room).fault with
        | some e => Except.error e
        | none => Except.ok (Room.mk h (stuffOf f) (stuffOf c) ((List.range (l.length / 3)).map (cornerM l)))) = _
      rw [er]
      generalize hns : (h :: f :: c :: l) = ns at *
      have wh : whole ns = (decide (3 ≤ cnt ns) && decide (cnt ns ≤ 64)) := by
        unfold whole
        rw [show decide (3 ≤ ns.length) = true by rw [decide_eq_true_eq]; omega, show decide (ns.length % 3 = 0) = true by rw [decide_eq_true_eq]; omega]
        rfl
      have key : (roomM ns).fault = (if whole ns = false then some (1, 0)
          else if head ns = false then some (2, 0)
          else match badCorner ns with
            | some i => some (3, i)
            | none => faultL (linesM ns)).map fun p => (⟨p.1, p.2⟩ : Fault) := by
        unfold Room.fault
        rw [roomM_n]
        by_cases w : whole ns = false
        · rw [if_pos w, if_pos (by rw [wh] at w; simp only [Bool.and_eq_false_iff, decide_eq_false_iff_not] at w; unfold MOST; omega)]
          rfl
        · have w' : 3 ≤ cnt ns ∧ cnt ns ≤ 64 := by
            rw [wh] at w
            simpa using w
          have R := roomM_is (ns := ns) (by omega)
          rw [if_neg w, if_neg (by unfold MOST; omega)]
          have eh : ((roomM ns).h < 1 ∨ WIDE < (roomM ns).h ∨ STUFFS ≤ (roomM ns).floor_ ∨ STUFFS ≤ (roomM ns).ceiling) ↔ head ns = false := by
            show (at_ ns 0 < 1 ∨ WIDE < at_ ns 0 ∨ STUFFS ≤ stuffOf (at_ ns 1) ∨ STUFFS ≤ stuffOf (at_ ns 2)) ↔ _
            have s1 := stuff_ok (at_ ns 1)
            have s2 := stuff_ok (at_ ns 2)
            unfold head
            rw [← Bool.not_eq_true, Bool.and_eq_true, Bool.and_eq_true, Bool.and_eq_true]
            rw [show okStuff (at_ ns 1) = !decide (STUFFS ≤ stuffOf (at_ ns 1)) by rw [s1, Bool.not_not], show okStuff (at_ ns 2) = !decide (STUFFS ≤ stuffOf (at_ ns 2)) by rw [s2, Bool.not_not]]
            simp only [Bool.not_eq_true', decide_eq_true_eq, decide_eq_false_iff_not]
            unfold WIDE
            omega
          by_cases hd : head ns = false
          · rw [if_pos hd, if_pos (eh.mpr hd)]
            rfl
          · rw [if_neg hd, if_neg (fun q => hd (eh.mp q))]
            have e3 : ((List.range (cnt ns)).find? fun (i : Nat) => decide (WIDE < ((roomM ns).corner i).x) || (decide (WIDE < ((roomM ns).corner i).y) || (decide (((roomM ns).corner i).x < 0) || (decide (((roomM ns).corner i).y < 0) || decide (STUFFS ≤ ((roomM ns).corner i).stuff))))) = badCorner ns := by
              unfold badCorner
              refine find_congr fun i hi => ?_
              rw [List.mem_range] at hi
              rw [R.corner i hi]
              show (decide (WIDE < at_ ns (3 + 3 * i)) || (decide (WIDE < at_ ns (3 + 3 * i + 1)) || (decide (at_ ns (3 + 3 * i) < 0) || (decide (at_ ns (3 + 3 * i + 1) < 0) || decide (STUFFS ≤ stuffOf (at_ ns (3 + 3 * i + 2))))))) = _
              rw [stuff_ok]
              unfold okCorner okCoord WIDE
              rw [Bool.eq_iff_iff]
              cases okStuff (at_ ns (3 + 3 * i + 2)) with
              | false => simp
              | true =>
                simp only [Bool.or_eq_true, decide_eq_true_eq, Bool.not_eq_true', Bool.and_eq_false_iff, decide_eq_false_iff_not]
                simp only [Bool.true_eq_false, or_false]
                omega
            rw [e3]
            cases badCorner ns with
            | some i => rfl
            | none =>
              have := fault_lines R w'.1
              rw [roomM_n] at this
              exact this
      rw [key]
      cases (if whole ns = false then some (1, 0)
          else if head ns = false then some (2, 0)
          else match badCorner ns with
            | some i => some (3, i)
            | none => faultL (linesM ns)) with
      | none => rfl
      | some p => rfl
    · rw [if_neg h3]
      have w : whole (h :: f :: c :: l) = false := by
        unfold whole
        rw [show decide ((h :: f :: c :: l).length % 3 = 0) = false by rw [decide_eq_false_iff_not]; omega]
        simp
      rw [if_pos w]

def judgeM (ns : List Int) : List Int := match faultM ns with
  | some p => [-5, (p.1 : Int), (p.2 : Int)]
  | none => [0]
theorem judge_eq (ns : List Int) : PyYqbeaa.judge ns = judgeM ns := by
  show RaNeutral.told (Ra.ofRoom ns fun _ => .nums []) = _
  unfold Ra.ofRoom judgeM
  rw [roomOf_eq]
  cases faultM ns with
  | none => rfl
  | some p => rfl

def straightL (ls : List Ln) : Int := ((ls.filter straightB).map fun l => absI l.dx + absI l.dy).sum
def slantedL (ls : List Ln) : Int := ((ls.filter fun l => !straightB l).map fun l => absI l.dx).sum
def sizesM (ns : List Int) : List Int := match faultM ns with
  | some p => [-5, (p.1 : Int), (p.2 : Int)]
  | none => [0, area (linesM ns), straightL (linesM ns), slantedL (linesM ns), area (linesM ns) * at_ ns 0]
theorem absI_eq (i : Int) : absI i = (i.natAbs : Int) := by
  unfold absI
  split <;> omega
theorem sum_filter {α : Type} (p : α → Bool) (g : α → Int) : ∀ l : List α, ((l.filter p).map g).sum = (l.map fun a => if p a = true then g a else 0).sum
  | [] => rfl
  | a :: l => by
    rw [List.filter_cons, List.map_cons, List.sum_cons, ← sum_filter p g l]
    split
    · rw [List.map_cons, List.sum_cons]
    · omega
theorem faultM_whole {ns : List Int} (h : faultM ns = none) : 3 ≤ cnt ns := by
  unfold faultM at h
  by_cases w : whole ns = false
  · rw [if_pos w] at h
    cases h
  · unfold whole at w
    simp at w
    omega
theorem sizes_eq (ns : List Int) : PyYqbeaa.sizes ns = sizesM ns := by
  show RaNeutral.told (Ra.ofRoom ns fun (r : Room) => .nums [r.area2, Ra.straight r, Ra.slanted r, r.area2 * r.h]) = _
  unfold Ra.ofRoom sizesM
  rw [roomOf_eq]
  cases h : faultM ns with
  | some p => rfl
  | none =>
    have h3 := faultM_whole h
    have R := roomM_is (ns := ns) (by omega)
    have hn0 : 0 < cnt ns := by omega
    have e7 : (roomM ns).area2 = area (linesM ns) := by
      unfold Room.area2 area linesM
      rw [foldr_sum, List.map_map, R.n]
      refine congrArg List.sum (List.map_congr_left fun i hi => ?_)
      rw [List.mem_range] at hi
      rw [R.next i hi, R.corner i hi, R.corner _ (Nat.mod_lt _ hn0)]
      rfl
    have e8 : Ra.straight (roomM ns) = straightL (linesM ns) := by
      unfold Ra.straight straightL linesM
      rw [foldr_sum, sum_filter, List.map_map, R.n]
      refine congrArg List.sum (List.map_congr_left fun i hi => ?_)
      rw [List.mem_range] at hi
      rw [R.next i hi, R.corner i hi, R.corner _ (Nat.mod_lt _ hn0)]
      show _ = if straightB (wallOf ns (cnt ns) i) = true then _ else _
      unfold straightB
      rw [absI_eq, absI_eq]
      show (if (wallOf ns (cnt ns) i).dx = 0 ∨ (wallOf ns (cnt ns) i).dy = 0 then (((wallOf ns (cnt ns) i).dx.natAbs + (wallOf ns (cnt ns) i).dy.natAbs : Nat) : Int) else 0) = _
      by_cases q : (wallOf ns (cnt ns) i).dx = 0 ∨ (wallOf ns (cnt ns) i).dy = 0
      · rw [if_pos q, if_pos (by rw [Bool.or_eq_true, decide_eq_true_eq, decide_eq_true_eq]; exact q), Int.natCast_add]
      · rw [if_neg q, if_neg (by rw [Bool.or_eq_true, decide_eq_true_eq, decide_eq_true_eq]; exact q)]
    have e9 : Ra.slanted (roomM ns) = slantedL (linesM ns) := by
      unfold Ra.slanted slantedL linesM
      rw [foldr_sum, sum_filter, List.map_map, R.n]
      refine congrArg List.sum (List.map_congr_left fun i hi => ?_)
      rw [List.mem_range] at hi
      rw [R.next i hi, R.corner i hi, R.corner _ (Nat.mod_lt _ hn0)]
      show _ = if (!straightB (wallOf ns (cnt ns) i)) = true then _ else _
      unfold straightB
      rw [absI_eq]
      show (if (wallOf ns (cnt ns) i).dx = 0 ∨ (wallOf ns (cnt ns) i).dy = 0 then 0 else ((wallOf ns (cnt ns) i).dx.natAbs : Int)) = _
      by_cases q : (wallOf ns (cnt ns) i).dx = 0 ∨ (wallOf ns (cnt ns) i).dy = 0
      · rw [if_pos q, if_neg (by rw [Bool.not_eq_true', Bool.or_eq_false_iff, decide_eq_false_iff_not, decide_eq_false_iff_not]; omega)]
      · rw [if_neg q, if_pos (by rw [Bool.not_eq_true', Bool.or_eq_false_iff, decide_eq_false_iff_not, decide_eq_false_iff_not]; omega)]
    show (0 : Int) :: [(roomM ns).area2, Ra.straight (roomM ns), Ra.slanted (roomM ns), (roomM ns).area2 * (roomM ns).h] = _
    rw [e7, e8, e9]
    rfl
end Rm

set_option Elab.async false
set_option linter.all false
namespace Rm
open Eh
/-! where, over whole numbers -/
def crossI (x y : Int) (l : Ln) : Bool := if l.y0 ≤ y ∧ y < l.y1 then decide (0 < side l x y) else if l.y1 ≤ y ∧ y < l.y0 then decide (side l x y < 0) else false
def onB (x y : Int) (l : Ln) : Bool := decide (onI l x y)
def withinI (ls : List Ln) (x y : Int) : Bool := !(ls.any (onB x y)) && (ls.filter (crossI x y)).length % 2 == 1
def insideI (ls : List Ln) (h x y z : Int) : Bool := withinI ls x y && (decide (0 < z) && decide (z < h))
def surfI (ls : List Ln) (h x y z : Int) : Bool := (withinI ls x y || ls.any (onB x y)) && (decide (0 ≤ z) && (decide (z ≤ h) && !insideI ls h x y z))
def whereI (ls : List Ln) (h x y z : Int) : Nat := if insideI ls h x y z = true then 2 else if surfI ls h x y z = true then 1 else 0
theorem crosses_pts (l : Ln) (x y : Int) (z : Rat) : crosses ⟨x, y, z⟩ l.pts = crossI x y l := by
  unfold crosses crossI
  rw [left_cast]
  show (if (l.y0 : Rat) ≤ (y : Rat) ∧ (y : Rat) < (l.y1 : Rat) then decide (0 < ((side l x y : Int) : Rat)) else if (l.y1 : Rat) ≤ (y : Rat) ∧ (y : Rat) < (l.y0 : Rat) then decide (((side l x y : Int) : Rat) < 0) else false) = _
  simp only [Rat.intCast_le_intCast, Rat.intCast_lt_intCast, Rat.intCast_pos, Rat.intCast_neg_iff]
theorem lines_pts {r : Room} {ns : List Int} (R : RoomIs r ns) (hn : 0 < cnt ns) : r.lines = (linesM ns).map Ln.pts := by
  unfold Room.lines linesM
  rw [R.n, List.map_map]
  refine List.map_congr_left fun i hi => ?_
  rw [List.mem_range] at hi
  exact R.line hn hi
theorem any_on (ls : List Ln) (x y : Int) (z : Rat) : ((ls.map Ln.pts).any fun (l : Pt × Pt) => onLine l ⟨x, y, z⟩) = ls.any (onB x y) := by
  rw [List.any_map]
  refine any_congr' fun l _ => ?_
  exact onLine_pts l x y z
theorem count_cross (ls : List Ln) (x y : Int) (z : Rat) : ((ls.map Ln.pts).filter (crosses ⟨x, y, z⟩)).length = (ls.filter (crossI x y)).length := by
  rw [List.filter_map, List.length_map]
  congr 2
  funext l
  exact crosses_pts l x y z
theorem within_I {r : Room} {ns : List Int} (R : RoomIs r ns) (hn : 0 < cnt ns) (x y : Int) (z : Rat) : r.within ⟨x, y, z⟩ = withinI (linesM ns) x y := by
  unfold Room.within withinI
  rw [lines_pts R hn, any_on, count_cross]
theorem inside_I {r : Room} {ns : List Int} (R : RoomIs r ns) (hn : 0 < cnt ns) (x y z : Int) : r.inside ⟨x, y, z⟩ = insideI (linesM ns) (at_ ns 0) x y z := by
  unfold Room.inside insideI
  rw [within_I R hn, R.h]
  simp only [Rat.intCast_pos, Rat.intCast_lt_intCast]
theorem where_I {r : Room} {ns : List Int} (R : RoomIs r ns) (hn : 0 < cnt ns) (x y z : Int) : r.where_ ⟨x, y, z⟩ = whereI (linesM ns) (at_ ns 0) x y z := by
  have e0 : ∀ z : Int, decide ((0 : Rat) ≤ (z : Rat)) = decide (0 ≤ z) := fun z => by
    rw [Bool.eq_iff_iff, decide_eq_true_eq, decide_eq_true_eq]
    exact Rat.intCast_nonneg
  unfold Room.where_ Room.onSurface whereI surfI
  rw [inside_I R hn, within_I R hn, lines_pts R hn, any_on, R.h, e0]
  simp only [Rat.intCast_le_intCast]
def whereM (x y z : Int) (ns : List Int) : List Int := match faultM ns with
  | some p => [-5, (p.1 : Int), (p.2 : Int)]
  | none => [(whereI (linesM ns) (at_ ns 0) x y z : Int)]
theorem where_eq (x y z : Int) (ns : List Int) : PyYqbeaa.where_ x y z ns = whereM x y z ns := by
  show RaNeutral.told (Ra.ofRoom ns fun (r : Room) => .number (r.where_ ⟨x, y, z⟩)) = _
  unfold Ra.ofRoom whereM
  rw [roomOf_eq]
  cases h : faultM ns with
  | some p => rfl
  | none =>
    have h3 := faultM_whole h
    have R := roomM_is (ns := ns) (by omega)
    show RaNeutral.told (.number ((roomM ns).where_ ⟨x, y, z⟩)) = _
    rw [where_I R (by omega)]
    rfl
/-! mirror, over whole numbers -/
def mirrorI (ls : List Ln) (h : Int) (w : Nat) (x y z : Int) : List Int :=
  if w < ls.length then
    let l := lnAt ls w
    if l.x0 = l.x1 then [2 * l.x0 - x, y, z]
    else if l.y0 = l.y1 then [x, 2 * l.y0 - y, z]
    else if l.x1 - l.x0 = l.y1 - l.y0 then [y - (l.y0 - l.x0), x + (l.y0 - l.x0), z]
    else [l.x0 + l.y0 - y, l.x0 + l.y0 - x, z]
  else if w = ls.length then [x, y, -z] else [x, y, 2 * h - z]
theorem told_whole (x y z : Int) : (told ⟨(x : Rat), (y : Rat), (z : Rat)⟩).take 3 = [x, y, z] := by
  have e : ∀ a : Int, (a : Rat).den = 1 := fun a => rfl
  unfold told
  show [(x : Rat).num * ((Nat.lcm (x : Rat).den (Nat.lcm (y : Rat).den (z : Rat).den) / (x : Rat).den : Nat) : Int), (y : Rat).num * ((Nat.lcm (x : Rat).den (Nat.lcm (y : Rat).den (z : Rat).den) / (y : Rat).den : Nat) : Int), (z : Rat).num * ((Nat.lcm (x : Rat).den (Nat.lcm (y : Rat).den (z : Rat).den) / (z : Rat).den : Nat) : Int)] = _
  rw [e, e, e, Rat.num_intCast, Rat.num_intCast, Rat.num_intCast]
  have e2 : ((Nat.lcm 1 (Nat.lcm 1 1) / 1 : Nat) : Int) = 1 := by decide
  rw [e2, Int.mul_one, Int.mul_one, Int.mul_one]
theorem pt_cast {a b c : Rat} {x y z : Int} (ha : a = (x : Rat)) (hb : b = (y : Rat)) (hc : c = (z : Rat)) : (told ⟨a, b, c⟩).take 3 = [x, y, z] := by
  rw [ha, hb, hc]
  exact told_whole x y z
theorem mirror_I {r : Room} {ns : List Int} (R : RoomIs r ns) (hn : 0 < cnt ns) (w : Nat) (x y z : Int) : (told (r.mirror w ⟨x, y, z⟩)).take 3 = mirrorI (linesM ns) (at_ ns 0) w x y z := by
  have len : (linesM ns).length = cnt ns := by unfold linesM; rw [List.length_map, List.length_range]
  have two : (2 : Rat) = ((2 : Int) : Rat) := rfl
  unfold Room.mirror mirrorI
  rw [len, R.n]
  by_cases hw : w < cnt ns
  · rw [if_pos hw, if_pos hw, R.line hn hw]
    have la : lnAt (linesM ns) w = wallOf ns (cnt ns) w := lnAt_map _ _ _ hw
    rw [la]
    generalize wallOf ns (cnt ns) w = l
    show (told (if (l.x0 : Rat) = (l.x1 : Rat) then ⟨2 * (l.x0 : Rat) - (x : Rat), (y : Rat), (z : Rat)⟩
      else if (l.y0 : Rat) = (l.y1 : Rat) then ⟨(x : Rat), 2 * (l.y0 : Rat) - (y : Rat), (z : Rat)⟩
      else if (l.x1 : Rat) - (l.x0 : Rat) = (l.y1 : Rat) - (l.y0 : Rat) then ⟨(y : Rat) - ((l.y0 : Rat) - (l.x0 : Rat)), (x : Rat) + ((l.y0 : Rat) - (l.x0 : Rat)), (z : Rat)⟩
      else ⟨(l.x0 : Rat) + (l.y0 : Rat) - (y : Rat), (l.x0 : Rat) + (l.y0 : Rat) - (x : Rat), (z : Rat)⟩)).take 3 = if l.x0 = l.x1 then [2 * l.x0 - x, y, z]
      else if l.y0 = l.y1 then [x, 2 * l.y0 - y, z]
      else if l.x1 - l.x0 = l.y1 - l.y0 then [y - (l.y0 - l.x0), x + (l.y0 - l.x0), z]
      else [l.x0 + l.y0 - y, l.x0 + l.y0 - x, z]
    by_cases h1 : l.x0 = l.x1
    · rw [if_pos h1, if_pos (Rat.intCast_inj.mpr h1)]
      exact pt_cast (by rw [Rat.intCast_sub, Rat.intCast_mul, two]) rfl rfl
    · rw [if_neg h1, if_neg (fun q => h1 (Rat.intCast_inj.mp q))]
      by_cases h2 : l.y0 = l.y1
      · rw [if_pos h2, if_pos (Rat.intCast_inj.mpr h2)]
        exact pt_cast rfl (by rw [Rat.intCast_sub, Rat.intCast_mul, two]) rfl
      · rw [if_neg h2, if_neg (fun q => h2 (Rat.intCast_inj.mp q))]
        by_cases h3 : l.x1 - l.x0 = l.y1 - l.y0
        · rw [if_pos h3, if_pos (by rw [← Rat.intCast_sub, ← Rat.intCast_sub]; exact Rat.intCast_inj.mpr h3)]
          exact pt_cast (by rw [Rat.intCast_sub, Rat.intCast_sub]) (by rw [Rat.intCast_add, Rat.intCast_sub]) rfl
        · rw [if_neg h3, if_neg (fun q => h3 (by rw [← Rat.intCast_sub, ← Rat.intCast_sub] at q; exact Rat.intCast_inj.mp q))]
          exact pt_cast (by rw [Rat.intCast_sub, Rat.intCast_add]) (by rw [Rat.intCast_sub, Rat.intCast_add]) rfl
  · rw [if_neg hw, if_neg hw]
    by_cases h1 : w = cnt ns
    · rw [if_pos h1, if_pos h1]
      exact pt_cast rfl rfl (by rw [Rat.intCast_neg])
    · rw [if_neg h1, if_neg h1, R.h]
      exact pt_cast rfl rfl (by rw [Rat.intCast_sub, Rat.intCast_mul, two])
def mirrorM (w : Nat) (x y z : Int) (ns : List Int) : List Int := match faultM ns with
  | some p => [-5, (p.1 : Int), (p.2 : Int)]
  | none => if cnt ns + 2 ≤ w then [-1] else 0 :: mirrorI (linesM ns) (at_ ns 0) w x y z
theorem mirror_eq (w x y z : Int) (ns : List Int) (hw : 0 ≤ w) : PyYqbeaa.mirror w x y z ns = mirrorM w.toNat x y z ns := by
  have e0 : PyYqbeaa.mirror w x y z ns = RaNeutral.told (Ra.ofRoom ns fun (r : Room) => if r.walls ≤ w.toNat then .refused 1 else .nums ((told (r.mirror w.toNat ⟨x, y, z⟩)).take 3)) := by
    show (RaNeutral.step RaNeutral.start [[5, w, x, y, z], ns]).2 = _
    unfold RaNeutral.step RaNeutral.callOf
    show (match (if w < 0 then none else some (Ra.Call.mirror w.toNat ⟨x, y, z⟩ ns)) with
      | some x => ((Ra.step RaNeutral.start x).1, RaNeutral.told (Ra.step RaNeutral.start x).2)
      | none => (RaNeutral.start, [])).2 = _
    rw [if_neg (by omega)]
    rfl
  rw [e0]
  unfold Ra.ofRoom mirrorM
  rw [roomOf_eq]
  cases h : faultM ns with
  | some p => rfl
  | none =>
    have h3 := faultM_whole h
    have R := roomM_is (ns := ns) (by omega)
    show RaNeutral.told (if (roomM ns).walls ≤ w.toNat then .refused 1 else .nums ((told ((roomM ns).mirror w.toNat ⟨x, y, z⟩)).take 3)) = if cnt ns + 2 ≤ w.toNat then [-1] else 0 :: mirrorI (linesM ns) (at_ ns 0) w.toNat x y z
    rw [mirror_I R (by omega), show (roomM ns).walls = cnt ns + 2 by unfold Room.walls; rw [R.n]]
    by_cases q : cnt ns + 2 ≤ w.toNat
    · rw [if_pos q, if_pos q]
      rfl
    · rw [if_neg q, if_neg q]
      rfl
end Rm

set_option Elab.async false
set_option linter.all false
namespace Rm
open Eh
/-! fractions of whole numbers -/
theorem frac_neg (n d : Int) : (n : Rat) / (d : Rat) = ((-n : Int) : Rat) / ((-d : Int) : Rat) := by
  rw [← Rat.divInt_eq_div, ← Rat.divInt_eq_div, Rat.neg_divInt_neg]
theorem pos_cast {d : Int} (h : 0 < d) : (0 : Rat) < (d : Rat) := Rat.intCast_pos.mpr h
theorem frac_lt {n d c : Int} (h : 0 < d) : (n : Rat) / (d : Rat) < (c : Rat) ↔ n < c * d := by
  rw [Rat.div_lt_iff (pos_cast h), ← Rat.intCast_mul, Rat.intCast_lt_intCast]
theorem lt_frac {n d c : Int} (h : 0 < d) : (c : Rat) < (n : Rat) / (d : Rat) ↔ c * d < n := by
  rw [Rat.lt_div_iff (pos_cast h), ← Rat.intCast_mul, Rat.intCast_lt_intCast]
theorem frac_le {n d c : Int} (h : 0 < d) : (n : Rat) / (d : Rat) ≤ (c : Rat) ↔ n ≤ c * d := by
  rw [← Rat.not_lt, lt_frac h, Int.not_lt]
theorem le_frac {n d c : Int} (h : 0 < d) : (c : Rat) ≤ (n : Rat) / (d : Rat) ↔ c * d ≤ n := by
  rw [← Rat.not_lt, frac_lt h, Int.not_lt]
theorem frac_le_frac {n m d : Int} (h : 0 < d) : (n : Rat) / (d : Rat) ≤ (m : Rat) / (d : Rat) ↔ n ≤ m := by
  have hp := pos_cast h
  rw [← Rat.not_lt, Rat.lt_div_iff hp, Rat.div_mul_cancel (fun z => by rw [z] at hp; exact absurd hp (by decide)), Rat.intCast_lt_intCast, Int.not_lt]
/-! touches, over whole numbers -/
def touchI (px py qx qy : Int) (l : Ln) : Bool :=
  let dx := qx - px
  let dy := qy - py
  let ax := l.x0 - px
  let ay := l.y0 - py
  let d := dx * l.dy - dy * l.dx
  let nt := ax * l.dy - ay * l.dx
  let nu := ax * dy - ay * dx
  if 0 < d then decide (0 < nt) && (decide (nt < d) && (decide (0 ≤ nu) && decide (nu ≤ d)))
  else if d < 0 then decide (nt < 0) && (decide (d < nt) && (decide (nu ≤ 0) && decide (d ≤ nu)))
  else if nu ≠ 0 then false
  else if dx = 0 ∧ dy = 0 then onB px py l
  else
    let na := ax * dx + ay * dy
    let nb := (l.x1 - px) * dx + (l.y1 - py) * dy
    decide (min na nb < dx * dx + dy * dy) && decide (0 < max na nb)
theorem turn_cast (a b c d : Int) : turn (a : Rat) (b : Rat) (c : Rat) (d : Rat) = ((a * d - b * c : Int) : Rat) := by
  unfold turn
  rw [Rat.intCast_sub, Rat.intCast_mul, Rat.intCast_mul]
theorem sq_pos {a b : Int} (h : ¬ (a = 0 ∧ b = 0)) : 0 < a * a + b * b := by
  have h1 : 0 ≤ a * a := by
    rcases Int.le_total 0 a with q | q
    · exact Int.mul_nonneg q q
    · exact Int.mul_nonneg_of_nonpos_of_nonpos q q
  have h2 : 0 ≤ b * b := by
    rcases Int.le_total 0 b with q | q
    · exact Int.mul_nonneg q q
    · exact Int.mul_nonneg_of_nonpos_of_nonpos q q
  have h3 : a * a = 0 → a = 0 := fun q => by
    rcases Int.mul_eq_zero.mp q with z | z <;> exact z
  have h4 : b * b = 0 → b = 0 := fun q => by
    rcases Int.mul_eq_zero.mp q with z | z <;> exact z
  by_cases ha : a * a = 0
  · by_cases hb : b * b = 0
    · exact absurd ⟨h3 ha, h4 hb⟩ h
    · omega
  · omega
theorem touches_pts (px py qx qy : Int) (pz qz : Rat) (l : Ln) : touches ⟨px, py, pz⟩ ⟨qx, qy, qz⟩ l.pts = touchI px py qx qy l := by
  have c0 : (0 : Rat) = ((0 : Int) : Rat) := rfl
  have c1 : (1 : Rat) = ((1 : Int) : Rat) := rfl
  have unf : touches ⟨px, py, pz⟩ ⟨qx, qy, qz⟩ l.pts =
    (if (((qx - px) * l.dy - (qy - py) * l.dx : Int) : Rat) ≠ 0 then
      decide (0 < (((l.x0 - px) * l.dy - (l.y0 - py) * l.dx : Int) : Rat) / (((qx - px) * l.dy - (qy - py) * l.dx : Int) : Rat)) && (decide ((((l.x0 - px) * l.dy - (l.y0 - py) * l.dx : Int) : Rat) / (((qx - px) * l.dy - (qy - py) * l.dx : Int) : Rat) < 1) &&
        (decide (0 ≤ (((l.x0 - px) * (qy - py) - (l.y0 - py) * (qx - px) : Int) : Rat) / (((qx - px) * l.dy - (qy - py) * l.dx : Int) : Rat)) && decide ((((l.x0 - px) * (qy - py) - (l.y0 - py) * (qx - px) : Int) : Rat) / (((qx - px) * l.dy - (qy - py) * l.dx : Int) : Rat) ≤ 1)))
    else if (((l.x0 - px) * (qy - py) - (l.y0 - py) * (qx - px) : Int) : Rat) ≠ 0 then false
    else if ((qx - px : Int) : Rat) = 0 ∧ ((qy - py : Int) : Rat) = 0 then onLine l.pts ⟨px, py, pz⟩
    else decide (min ((((l.x0 - px) * (qx - px) + (l.y0 - py) * (qy - py) : Int) : Rat) / (((qx - px) * (qx - px) + (qy - py) * (qy - py) : Int) : Rat)) ((((l.x1 - px) * (qx - px) + (l.y1 - py) * (qy - py) : Int) : Rat) / (((qx - px) * (qx - px) + (qy - py) * (qy - py) : Int) : Rat)) < 1) &&
      decide (0 < max ((((l.x0 - px) * (qx - px) + (l.y0 - py) * (qy - py) : Int) : Rat) / (((qx - px) * (qx - px) + (qy - py) * (qy - py) : Int) : Rat)) ((((l.x1 - px) * (qx - px) + (l.y1 - py) * (qy - py) : Int) : Rat) / (((qx - px) * (qx - px) + (qy - py) * (qy - py) : Int) : Rat)))) := by
    unfold touches
    simp only [Ln.pts, Ln.dx, Ln.dy, Rat.intCast_sub, Rat.intCast_mul, Rat.intCast_add, turn]
    first | rfl | congr
  rw [unf]
  unfold touchI
  simp only
  generalize hd : (qx - px) * l.dy - (qy - py) * l.dx = d
  generalize hnt : (l.x0 - px) * l.dy - (l.y0 - py) * l.dx = nt
  generalize hnu : (l.x0 - px) * (qy - py) - (l.y0 - py) * (qx - px) = nu
  rcases Int.lt_trichotomy 0 d with h | h | h
  · rw [if_pos (show ((d : Int) : Rat) ≠ 0 by rw [ne_eq, Rat.intCast_eq_zero_iff]; omega), if_pos h, c0, c1]
    simp only [lt_frac h, frac_lt h, le_frac h, frac_le h, Int.zero_mul, Int.one_mul]
  · rw [if_neg (show ¬ ((d : Int) : Rat) ≠ 0 by rw [ne_eq, Rat.intCast_eq_zero_iff]; omega), if_neg (show ¬ 0 < d by omega), if_neg (show ¬ d < 0 by omega)]
    by_cases hu : nu = 0
    · rw [if_neg (show ¬ ((nu : Int) : Rat) ≠ 0 by rw [ne_eq, Rat.intCast_eq_zero_iff]; omega), if_neg (show ¬ nu ≠ 0 by omega)]
      by_cases hz : qx - px = 0 ∧ qy - py = 0
      · rw [if_pos (show ((qx - px : Int) : Rat) = 0 ∧ ((qy - py : Int) : Rat) = 0 by rw [Rat.intCast_eq_zero_iff, Rat.intCast_eq_zero_iff]; exact hz), if_pos hz]
        exact onLine_pts l px py pz
      · rw [if_neg (show ¬ (((qx - px : Int) : Rat) = 0 ∧ ((qy - py : Int) : Rat) = 0) by rw [Rat.intCast_eq_zero_iff, Rat.intCast_eq_zero_iff]; exact hz), if_neg hz]
        have hs := sq_pos hz
        generalize (qx - px) * (qx - px) + (qy - py) * (qy - py) = s at hs
        generalize (l.x0 - px) * (qx - px) + (l.y0 - py) * (qy - py) = na
        generalize (l.x1 - px) * (qx - px) + (l.y1 - py) * (qy - py) = nb
        have emin : min ((na : Rat) / (s : Rat)) ((nb : Rat) / (s : Rat)) = ((min na nb : Int) : Rat) / (s : Rat) := by
          rw [Rat.min_def, Int.min_def]
          simp only [frac_le_frac hs]
          split <;> rfl
        have emax : max ((na : Rat) / (s : Rat)) ((nb : Rat) / (s : Rat)) = ((max na nb : Int) : Rat) / (s : Rat) := by
          rw [Rat.max_def, Int.max_def]
          simp only [frac_le_frac hs]
          split <;> rfl
        rw [emin, emax, c0, c1]
        simp only [lt_frac hs, frac_lt hs, Int.zero_mul, Int.one_mul]
    · rw [if_pos (show ((nu : Int) : Rat) ≠ 0 by rw [ne_eq, Rat.intCast_eq_zero_iff]; omega), if_pos hu]
  · have h' : 0 < -d := by omega
    rw [if_pos (show ((d : Int) : Rat) ≠ 0 by rw [ne_eq, Rat.intCast_eq_zero_iff]; omega), if_neg (show ¬ 0 < d by omega), if_pos h, frac_neg nt d, frac_neg nu d, c0, c1]
    simp only [lt_frac h', frac_lt h', le_frac h', frac_le h', Int.zero_mul, Int.one_mul]
    rw [Bool.eq_iff_iff]
    simp only [Bool.and_eq_true, decide_eq_true_eq]
    omega
/-! half points: all twice as large -/
def dbl (l : Ln) : Ln := ⟨2 * l.x0, 2 * l.y0, 2 * l.x1, 2 * l.y1⟩
def hf (k : Int) : Rat := (k : Rat) / 2
theorem hf_le {a b : Int} : hf a ≤ hf b ↔ a ≤ b := by
  unfold hf
  rw [show (2 : Rat) = ((2 : Int) : Rat) from rfl]
  exact frac_le_frac (by decide)
theorem hf_lt {a b : Int} : hf a < hf b ↔ a < b := by
  rw [← Rat.not_le, hf_le, Int.not_le]
theorem hf_dbl (a : Int) : (a : Rat) = hf (2 * a) := by
  unfold hf
  rw [Rat.intCast_mul]
  show (a : Rat) = 2 * (a : Rat) / 2
  rw [Rat.mul_comm, Rat.mul_div_cancel (by decide)]
theorem left_half (l : Ln) (X Y : Int) (z : Rat) : left l.pts.1 l.pts.2 ⟨hf X, hf Y, z⟩ = ((side (dbl l) X Y : Int) : Rat) / ((4 : Int) : Rat) := by
  unfold left side Ln.pts dbl Ln.dx Ln.dy hf
  simp only [Rat.intCast_sub, Rat.intCast_mul]
  grind
theorem left_half_sign (l : Ln) (X Y : Int) (z : Rat) : (left l.pts.1 l.pts.2 ⟨hf X, hf Y, z⟩ < 0 ↔ side (dbl l) X Y < 0) ∧ (0 < left l.pts.1 l.pts.2 ⟨hf X, hf Y, z⟩ ↔ 0 < side (dbl l) X Y) := by
  rw [left_half]
  constructor
  · have := frac_lt (n := side (dbl l) X Y) (d := 4) (c := 0) (by decide)
    rw [Int.zero_mul] at this
    exact this
  · have := lt_frac (n := side (dbl l) X Y) (d := 4) (c := 0) (by decide)
    rw [Int.zero_mul] at this
    exact this
theorem between_half (a b c : Int) : between (a : Rat) (b : Rat) (hf c) = decide (min (2 * a) (2 * b) ≤ c ∧ c ≤ max (2 * a) (2 * b)) := by
  have e1 : min (a : Rat) (b : Rat) = hf (min (2 * a) (2 * b)) := by
    rw [hf_dbl a, hf_dbl b, Rat.min_def, Int.min_def]
    simp only [hf_le]
    split <;> rfl
  have e2 : max (a : Rat) (b : Rat) = hf (max (2 * a) (2 * b)) := by
    rw [hf_dbl a, hf_dbl b, Rat.max_def, Int.max_def]
    simp only [hf_le]
    split <;> rfl
  unfold between
  rw [e1, e2]
  simp only [hf_le]
  rw [Bool.decide_and]
theorem onLine_half (l : Ln) (X Y : Int) (z : Rat) : onLine l.pts ⟨hf X, hf Y, z⟩ = onB X Y (dbl l) := by
  unfold onLine
  have e : (left l.pts.1 l.pts.2 ⟨hf X, hf Y, z⟩ == 0) = decide (side (dbl l) X Y = 0) := by
    rw [Bool.eq_iff_iff, beq_iff_eq, decide_eq_true_eq]
    have s := left_half_sign l X Y z
    constructor
    · intro q
      rw [q] at s
      have s1 : ¬ side (dbl l) X Y < 0 := fun w => absurd (s.1.mpr w) (by decide)
      have s2 : ¬ 0 < side (dbl l) X Y := fun w => absurd (s.2.mpr w) (by decide)
      omega
    · intro q
      rw [left_half, q, Rat.div_def]
      exact Rat.zero_mul _
  rw [e]
  show (_ && (between (l.x0 : Rat) (l.x1 : Rat) (hf X) && between (l.y0 : Rat) (l.y1 : Rat) (hf Y))) = _
  rw [between_half, between_half]
  unfold onB
  rw [Bool.eq_iff_iff, decide_eq_true_iff]
  unfold onI dbl
  simp
theorem crosses_half (l : Ln) (X Y : Int) (z : Rat) : crosses ⟨hf X, hf Y, z⟩ l.pts = crossI X Y (dbl l) := by
  unfold crosses crossI
  obtain ⟨s1, s2⟩ := left_half_sign l X Y z
  show (if (l.y0 : Rat) ≤ hf Y ∧ hf Y < (l.y1 : Rat) then decide (0 < left l.pts.1 l.pts.2 ⟨hf X, hf Y, z⟩) else if (l.y1 : Rat) ≤ hf Y ∧ hf Y < (l.y0 : Rat) then decide (left l.pts.1 l.pts.2 ⟨hf X, hf Y, z⟩ < 0) else false) = _
  rw [hf_dbl l.y0, hf_dbl l.y1]
  simp only [hf_le, hf_lt, s1, s2]
  rfl
theorem within_half {r : Room} {ns : List Int} (R : RoomIs r ns) (hn : 0 < cnt ns) (X Y : Int) (z : Rat) : r.within ⟨hf X, hf Y, z⟩ = withinI ((linesM ns).map dbl) X Y := by
  unfold Room.within withinI
  rw [lines_pts R hn, List.any_map, List.any_map, List.filter_map, List.length_map, List.filter_map, List.length_map]
  congr 2
  · refine any_congr' fun l _ => ?_
    exact onLine_half l X Y z
  · congr 3
    funext l
    exact crosses_half l X Y z
def clearI (ls : List Ln) (h px py pz qx qy qz : Int) : Bool :=
  insideI ls h px py pz && (insideI ls h qx qy qz && ((decide (px = qx) && (decide (py = qy) && decide (pz = qz))) || (!(ls.any (touchI px py qx qy)) && insideI (ls.map dbl) (2 * h) (px + qx) (py + qy) (pz + qz))))
theorem mid_half (a b : Int) : (a : Rat) + 1 / 2 * ((b : Rat) - (a : Rat)) = hf (a + b) := by
  unfold hf
  rw [Rat.intCast_add]
  grind
theorem sees_I {r : Room} {ns : List Int} (R : RoomIs r ns) (hn : 0 < cnt ns) (px py pz qx qy qz : Int) : r.sees ⟨px, py, pz⟩ ⟨qx, qy, qz⟩ = clearI (linesM ns) (at_ ns 0) px py pz qx qy qz := by
  unfold Room.sees clearI
  rw [inside_I R hn, inside_I R hn]
  congr 2
  unfold Room.clear
  congr 1
  · rw [Bool.eq_iff_iff, beq_iff_eq, Pt.mk.injEq, Rat.intCast_inj, Rat.intCast_inj, Rat.intCast_inj]
    simp only [Bool.and_eq_true, decide_eq_true_eq]
  · congr 1
    · rw [lines_pts R hn, List.any_map]
      congr 1
      refine any_congr' fun l _ => ?_
      exact touches_pts px py qx qy pz qz l
    · unfold onWay
      show r.inside ⟨(px : Rat) + 1 / 2 * ((qx : Rat) - (px : Rat)), (py : Rat) + 1 / 2 * ((qy : Rat) - (py : Rat)), (pz : Rat) + 1 / 2 * ((qz : Rat) - (pz : Rat))⟩ = _
      rw [mid_half, mid_half, mid_half]
      unfold Room.inside insideI
      rw [within_half R hn, R.h]
      have e1 : decide (0 < hf (pz + qz)) = decide (0 < pz + qz) := by
        rw [Bool.eq_iff_iff, decide_eq_true_eq, decide_eq_true_eq]
        have e0 : (0 : Rat) = hf 0 := hf_dbl 0
        rw [e0]
        exact hf_lt
      rw [hf_dbl (at_ ns 0), e1]
      simp only [hf_lt]
def clearM (px py pz qx qy qz : Int) (ns : List Int) : List Int := match faultM ns with
  | some p => [-5, (p.1 : Int), (p.2 : Int)]
  | none => [if clearI (linesM ns) (at_ ns 0) px py pz qx qy qz = true then 1 else 0]
theorem clear_eq (px py pz qx qy qz : Int) (ns : List Int) : PyYqbeaa.clear px py pz qx qy qz ns = clearM px py pz qx qy qz ns := by
  show RaNeutral.told (Ra.ofRoom ns fun (r : Room) => .number (if r.sees ⟨px, py, pz⟩ ⟨qx, qy, qz⟩ = true then 1 else 0)) = _
  unfold Ra.ofRoom clearM
  rw [roomOf_eq]
  cases h : faultM ns with
  | some p => rfl
  | none =>
    have h3 := faultM_whole h
    have R := roomM_is (ns := ns) (by omega)
    show RaNeutral.told (.number (if (roomM ns).sees ⟨px, py, pz⟩ ⟨qx, qy, qz⟩ = true then 1 else 0)) = _
    rw [sees_I R (by omega)]
    cases clearI (linesM ns) (at_ ns 0) px py pz qx qy qz <;> rfl
end Rm

set_option Elab.async false
set_option linter.all false
namespace Rm
open Eh
theorem left_way (a b p m : Pt) (s : Rat) : left a b (onWay p m s) = left a b p + s * (left a b m - left a b p) := by
  unfold left onWay
  grind
theorem left_swap (a b p : Pt) : left b a p = - left a b p := by
  unfold left
  grind
/-- a point on the straight line through a and b, between them in height -/
theorem on_by_height {a b v : Pt} (h : a.y < b.y) (h1 : a.y ≤ v.y) (h2 : v.y ≤ b.y) (h0 : left a b v = 0) : onLine (a, b) v = true := by
  have E : 0 < b.y - a.y := by grind
  have e : (b.y - a.y) * (v.x - a.x) = (b.x - a.x) * (v.y - a.y) := by
    unfold left at h0
    grind
  have e' : (b.y - a.y) * (b.x - v.x) = (b.x - a.x) * (b.y - v.y) := by grind
  have g1 : 0 ≤ v.y - a.y := by grind
  have g2 : 0 ≤ b.y - v.y := by grind
  have bx : (min a.x b.x ≤ v.x ∧ v.x ≤ max a.x b.x) := by
    rcases Rat.le_total (a := a.x) (b := b.x) with q | q
    · have w : 0 ≤ b.x - a.x := by grind
      have r1 := Rat.mul_nonneg w g1
      have r2 := Rat.mul_nonneg w g2
      have k1 : 0 ≤ v.x - a.x := Rat.not_lt.mp fun z => by
        have := r_neg_pos z E
        grind
      have k2 : 0 ≤ b.x - v.x := Rat.not_lt.mp fun z => by
        have := r_neg_pos z E
        grind
      grind
    · have w : 0 ≤ a.x - b.x := by grind
      have r1 := Rat.mul_nonneg w g1
      have r2 := Rat.mul_nonneg w g2
      have k1 : 0 ≤ a.x - v.x := Rat.not_lt.mp fun z => by
        have := r_neg_pos z E
        grind
      have k2 : 0 ≤ v.x - b.x := Rat.not_lt.mp fun z => by
        have := r_neg_pos z E
        grind
      grind
  have by' : (min a.y b.y ≤ v.y ∧ v.y ≤ max a.y b.y) := by grind
  unfold onLine between
  simp only [Bool.and_eq_true, decide_eq_true_eq, beq_iff_eq]
  exact ⟨h0, bx, by'⟩
/-- no point of the way from p to m is on the line -/
def Apart (l : Pt × Pt) (p m : Pt) : Prop := ∀ s : Rat, 0 ≤ s → s ≤ 1 → onLine l (onWay p m s) = false
/-- right of the way up from p to m, in its height -/
def rightOf (p m v : Pt) : Bool := decide (p.y < v.y) && (decide (v.y ≤ m.y) && decide (left p m v < 0))
theorem cross_up {a b p : Pt} (h : a.y < b.y) : crosses p (a, b) = (decide (a.y ≤ p.y) && (decide (p.y < b.y) && decide (0 < left a b p))) := by
  unfold crosses
  show (if a.y ≤ p.y ∧ p.y < b.y then decide (0 < left a b p) else if b.y ≤ p.y ∧ p.y < a.y then decide (left a b p < 0) else false) = _
  by_cases h1 : a.y ≤ p.y ∧ p.y < b.y
  · rw [if_pos h1, decide_eq_true h1.1, decide_eq_true h1.2]
    rfl
  · rw [if_neg h1, if_neg (by grind)]
    symm
    rw [Bool.and_eq_false_iff, Bool.and_eq_false_iff, decide_eq_false_iff_not, decide_eq_false_iff_not]
    grind
theorem edge_up {a b p m : Pt} (h : a.y < b.y) (hp : p.y < m.y) (nt : Apart (a, b) p m) : (crosses p (a, b) ^^ crosses m (a, b)) = (rightOf p m a ^^ rightOf p m b) := by
  have D : 0 < m.y - p.y := by grind
  have E : 0 < b.y - a.y := by grind
  have D0 : m.y - p.y ≠ 0 := by grind
  rw [cross_up h, cross_up h]
  unfold rightOf
  by_cases C : p.y < b.y ∧ a.y ≤ m.y
  · -- the two ends of the common stretch
    have start : ∃ s1, 0 ≤ s1 ∧ s1 ≤ 1 ∧ (a.y - p.y ≤ s1 * (m.y - p.y)) ∧ (s1 * (m.y - p.y) ≤ b.y - p.y) ∧ (s1 = 0 ∨ s1 * (m.y - p.y) = a.y - p.y) ∧
        ((decide (a.y ≤ p.y) && (decide (p.y < b.y) && decide (0 < left a b p))) ^^ (decide (p.y < a.y) && (decide (a.y ≤ m.y) && decide (left p m a < 0)))) = decide (0 < left a b p + s1 * (left a b m - left a b p)) := by
      by_cases q : a.y ≤ p.y
      · refine ⟨0, by decide, by decide, by grind, by grind, .inl rfl, ?_⟩
        rw [decide_eq_true q, decide_eq_true C.1, decide_eq_false (show ¬ p.y < a.y by grind)]
        have e : left a b p + 0 * (left a b m - left a b p) = left a b p := by grind
        rw [e]
        simp
      · have q' : p.y < a.y := by grind
        have es : (a.y - p.y) / (m.y - p.y) * (m.y - p.y) = a.y - p.y := Rat.div_mul_cancel D0
        generalize (a.y - p.y) / (m.y - p.y) = s1 at es
        have k0 : 0 ≤ s1 := Rat.not_lt.mp fun z => by
          have := r_neg_pos z D
          grind
        have k1 : s1 ≤ 1 := Rat.not_lt.mp fun z => by
          have := Rat.mul_pos (show 0 < s1 - 1 by grind) D
          grind
        refine ⟨s1, k0, k1, by grind, by grind, .inr es, ?_⟩
        rw [decide_eq_false q, decide_eq_true q', decide_eq_true C.2, Bool.false_and, Bool.false_xor, Bool.true_and, Bool.true_and]
        have id1 : (m.y - p.y) * (left a b p + s1 * (left a b m - left a b p)) = (b.y - a.y) * (- left p m a) := by
          have : (m.y - p.y) * (left a b p + s1 * (left a b m - left a b p)) = (m.y - p.y) * left a b p + (a.y - p.y) * (left a b m - left a b p) := by grind
          rw [this]
          unfold left
          grind
        rw [Bool.eq_iff_iff, decide_eq_true_eq, decide_eq_true_eq]
        constructor
        · intro z
          have := Rat.mul_pos E (show 0 < - left p m a by grind)
          rw [← id1] at this
          exact r_pos_neg D this
        · intro z
          have := Rat.mul_pos D z
          rw [id1] at this
          have := r_pos_neg E this
          grind
    have stop : ∃ s2, 0 ≤ s2 ∧ s2 ≤ 1 ∧ (s2 * (m.y - p.y) ≤ b.y - p.y) ∧ (a.y - p.y ≤ s2 * (m.y - p.y)) ∧ (s2 = 1 ∨ s2 * (m.y - p.y) = b.y - p.y) ∧
        ((decide (a.y ≤ m.y) && (decide (m.y < b.y) && decide (0 < left a b m))) ^^ (decide (p.y < b.y) && (decide (b.y ≤ m.y) && decide (left p m b < 0)))) = decide (0 < left a b p + s2 * (left a b m - left a b p)) := by
      by_cases q : m.y < b.y
      · refine ⟨1, by decide, by decide, by grind, by grind, .inl rfl, ?_⟩
        rw [decide_eq_true q, decide_eq_true C.2, decide_eq_false (show ¬ b.y ≤ m.y by grind)]
        have e : left a b p + 1 * (left a b m - left a b p) = left a b m := by grind
        rw [e]
        simp
      · have q' : b.y ≤ m.y := by grind
        have es : (b.y - p.y) / (m.y - p.y) * (m.y - p.y) = b.y - p.y := Rat.div_mul_cancel D0
        generalize (b.y - p.y) / (m.y - p.y) = s2 at es
        have k0 : 0 ≤ s2 := Rat.not_lt.mp fun z => by
          have := r_neg_pos z D
          grind
        have k1 : s2 ≤ 1 := Rat.not_lt.mp fun z => by
          have := Rat.mul_pos (show 0 < s2 - 1 by grind) D
          grind
        refine ⟨s2, k0, k1, by grind, by grind, .inr es, ?_⟩
        rw [decide_eq_false q, decide_eq_true q', decide_eq_true C.1, Bool.false_and, Bool.and_false, Bool.false_xor, Bool.true_and, Bool.true_and]
        have id1 : (m.y - p.y) * (left a b p + s2 * (left a b m - left a b p)) = (b.y - a.y) * (- left p m b) := by
          have : (m.y - p.y) * (left a b p + s2 * (left a b m - left a b p)) = (m.y - p.y) * left a b p + (b.y - p.y) * (left a b m - left a b p) := by grind
          rw [this]
          unfold left
          grind
        rw [Bool.eq_iff_iff, decide_eq_true_eq, decide_eq_true_eq]
        constructor
        · intro z
          have := Rat.mul_pos E (show 0 < - left p m b by grind)
          rw [← id1] at this
          exact r_pos_neg D this
        · intro z
          have := Rat.mul_pos D z
          rw [id1] at this
          have := r_pos_neg E this
          grind
    obtain ⟨s1, a1, a2, a3, a4, a5, a6⟩ := start
    obtain ⟨s2, b1, b2, b3, b4, b5, b6⟩ := stop
    have h12 : s1 ≤ s2 := Rat.not_lt.mp fun z => by
      have w := Rat.mul_pos (show 0 < s1 - s2 by grind) D
      grind
    have same : decide (0 < left a b p + s1 * (left a b m - left a b p)) = decide (0 < left a b p + s2 * (left a b m - left a b p)) := by
      rw [Bool.eq_iff_iff, decide_eq_true_eq, decide_eq_true_eq]
      have no : ∀ s, s1 ≤ s → s ≤ s2 → left a b p + s * (left a b m - left a b p) = 0 → False := fun s c1 c2 c3 => by
        have w1 := Rat.mul_nonneg (show 0 ≤ s - s1 by grind) (Rat.le_of_lt D)
        have w2 := Rat.mul_nonneg (show 0 ≤ s2 - s by grind) (Rat.le_of_lt D)
        have on := on_by_height (a := a) (b := b) (v := onWay p m s) h (by show a.y ≤ p.y + s * (m.y - p.y); grind) (by show p.y + s * (m.y - p.y) ≤ b.y; grind) (by rw [left_way]; exact c3)
        rw [nt s (by grind) (by grind)] at on
        cases on
      constructor
      · intro z
        refine Rat.not_le.mp fun y => ?_
        obtain ⟨s, c1, c2, c3⟩ := zero_between h12 (.inl ⟨z, y⟩)
        exact no s c1 c2 c3
      · intro z
        refine Rat.not_le.mp fun y => ?_
        obtain ⟨s, c1, c2, c3⟩ := zero_between h12 (.inr ⟨y, z⟩)
        exact no s c1 c2 c3
    rw [← a6, ← b6] at same
    revert same
    generalize (decide (a.y ≤ p.y) && (decide (p.y < b.y) && decide (0 < left a b p))) = x1
    generalize (decide (p.y < a.y) && (decide (a.y ≤ m.y) && decide (left p m a < 0))) = x2
    generalize (decide (a.y ≤ m.y) && (decide (m.y < b.y) && decide (0 < left a b m))) = x3
    generalize (decide (p.y < b.y) && (decide (b.y ≤ m.y) && decide (left p m b < 0))) = x4
    cases x1 <;> cases x2 <;> cases x3 <;> cases x4 <;> simp
  · have e1 : (decide (a.y ≤ p.y) && (decide (p.y < b.y) && decide (0 < left a b p))) = false := by
      rw [Bool.and_eq_false_iff, Bool.and_eq_false_iff, decide_eq_false_iff_not, decide_eq_false_iff_not]
      grind
    have e2 : (decide (a.y ≤ m.y) && (decide (m.y < b.y) && decide (0 < left a b m))) = false := by
      rw [Bool.and_eq_false_iff, Bool.and_eq_false_iff, decide_eq_false_iff_not, decide_eq_false_iff_not]
      grind
    have e3 : (decide (p.y < a.y) && (decide (a.y ≤ m.y) && decide (left p m a < 0))) = false := by
      rw [Bool.and_eq_false_iff, Bool.and_eq_false_iff, decide_eq_false_iff_not, decide_eq_false_iff_not]
      grind
    have e4 : (decide (p.y < b.y) && (decide (b.y ≤ m.y) && decide (left p m b < 0))) = false := by
      rw [Bool.and_eq_false_iff, Bool.and_eq_false_iff, decide_eq_false_iff_not, decide_eq_false_iff_not]
      grind
    rw [e1, e2, e3, e4]
theorem cross_swap (a b p : Pt) : crosses p (b, a) = crosses p (a, b) := by
  unfold crosses
  show (if b.y ≤ p.y ∧ p.y < a.y then decide (0 < left b a p) else if a.y ≤ p.y ∧ p.y < b.y then decide (left b a p < 0) else false) =
    (if a.y ≤ p.y ∧ p.y < b.y then decide (0 < left a b p) else if b.y ≤ p.y ∧ p.y < a.y then decide (left a b p < 0) else false)
  rw [left_swap a b p]
  have e1 : decide (0 < - left a b p) = decide (left a b p < 0) := by
    rw [Bool.eq_iff_iff, decide_eq_true_eq, decide_eq_true_eq]
    grind
  have e2 : decide (- left a b p < 0) = decide (0 < left a b p) := by
    rw [Bool.eq_iff_iff, decide_eq_true_eq, decide_eq_true_eq]
    grind
  rw [e1, e2]
  by_cases h1 : a.y ≤ p.y ∧ p.y < b.y
  · rw [if_pos h1, if_pos h1, if_neg (by grind)]
  · rw [if_neg h1, if_neg h1]
theorem on_swap (a b v : Pt) : onLine (b, a) v = onLine (a, b) v := by
  unfold onLine between
  show (left b a v == 0 && ((decide (min b.x a.x ≤ v.x) && decide (v.x ≤ max b.x a.x)) && (decide (min b.y a.y ≤ v.y) && decide (v.y ≤ max b.y a.y)))) = (left a b v == 0 && ((decide (min a.x b.x ≤ v.x) && decide (v.x ≤ max a.x b.x)) && (decide (min a.y b.y ≤ v.y) && decide (v.y ≤ max a.y b.y))))
  have e1 : (left b a v == 0) = (left a b v == 0) := by
    rw [left_swap a b v, Bool.eq_iff_iff, beq_iff_eq, beq_iff_eq]
    grind
  have e2 : min b.x a.x = min a.x b.x := by grind
  have e3 : max b.x a.x = max a.x b.x := by grind
  have e4 : min b.y a.y = min a.y b.y := by grind
  have e5 : max b.y a.y = max a.y b.y := by grind
  rw [e1, e2, e3, e4, e5]
theorem Apart.swap {a b p m : Pt} (h : Apart (a, b) p m) : Apart (b, a) p m := fun s h1 h2 => by
  rw [on_swap]
  exact h s h1 h2
theorem way_back (p m : Pt) (s : Rat) : onWay m p (1 - s) = onWay p m s := by
  unfold onWay
  congr 1 <;> grind
theorem Apart.back {l : Pt × Pt} {p m : Pt} (h : Apart l p m) : Apart l m p := fun s h1 h2 => by
  have e := way_back p m (1 - s)
  have e' : (1 : Rat) - (1 - s) = s := by grind
  rw [e'] at e
  rw [e]
  exact h (1 - s) (by grind) (by grind)
theorem on_flat {a b v : Pt} (h : a.y = b.y) (hv : v.y = a.y) (h1 : (a.x ≤ v.x ∧ v.x ≤ b.x) ∨ (b.x ≤ v.x ∧ v.x ≤ a.x)) : onLine (a, b) v = true := by
  unfold onLine between
  simp only [Bool.and_eq_true, decide_eq_true_eq, beq_iff_eq]
  refine ⟨?_, by grind, by grind⟩
  unfold left
  grind
theorem cross_flat {a b p : Pt} (h : a.y = b.y) : crosses p (a, b) = false := by
  unfold crosses
  show (if a.y ≤ p.y ∧ p.y < b.y then decide (0 < left a b p) else if b.y ≤ p.y ∧ p.y < a.y then decide (left a b p < 0) else false) = false
  rw [if_neg (by grind), if_neg (by grind)]
theorem edge_flat {a b p m : Pt} (h : a.y = b.y) (hp : p.y < m.y) (nt : Apart (a, b) p m) : rightOf p m a = rightOf p m b := by
  have D : 0 < m.y - p.y := by grind
  have D0 : m.y - p.y ≠ 0 := by grind
  unfold rightOf
  rw [← h]
  by_cases q : p.y < a.y ∧ a.y ≤ m.y
  · rw [decide_eq_true q.1, decide_eq_true q.2, Bool.true_and, Bool.true_and, Bool.true_and, Bool.true_and]
    have es : (a.y - p.y) / (m.y - p.y) * (m.y - p.y) = a.y - p.y := Rat.div_mul_cancel D0
    generalize (a.y - p.y) / (m.y - p.y) = s at es
    have k0 : 0 ≤ s := Rat.not_lt.mp fun z => by
      have := r_neg_pos z D
      grind
    have k1 : s ≤ 1 := Rat.not_lt.mp fun z => by
      have := Rat.mul_pos (show 0 < s - 1 by grind) D
      grind
    have vy : (onWay p m s).y = a.y := by
      show p.y + s * (m.y - p.y) = a.y
      grind
    have ea : left p m a = (m.y - p.y) * ((onWay p m s).x - a.x) := by
      show left p m a = (m.y - p.y) * (p.x + s * (m.x - p.x) - a.x)
      have : (m.y - p.y) * (p.x + s * (m.x - p.x) - a.x) = (m.y - p.y) * (p.x - a.x) + (a.y - p.y) * (m.x - p.x) := by grind
      rw [this]
      unfold left
      grind
    have eb : left p m b = (m.y - p.y) * ((onWay p m s).x - b.x) := by
      show left p m b = (m.y - p.y) * (p.x + s * (m.x - p.x) - b.x)
      have : (m.y - p.y) * (p.x + s * (m.x - p.x) - b.x) = (m.y - p.y) * (p.x - b.x) + (a.y - p.y) * (m.x - p.x) := by grind
      rw [this]
      unfold left
      grind
    have no := nt s k0 k1
    have noX : ¬ (((onWay p m s).x ≥ a.x ∧ (onWay p m s).x ≤ b.x) ∨ ((onWay p m s).x ≥ b.x ∧ (onWay p m s).x ≤ a.x)) := fun z => by
      rw [on_flat h vy z] at no
      cases no
    rw [ea, eb, Bool.eq_iff_iff, decide_eq_true_eq, decide_eq_true_eq, Rat.mul_neg_iff_of_pos_left D, Rat.mul_neg_iff_of_pos_left D]
    grind
  · have e3 : ∀ X : Bool, (decide (p.y < a.y) && (decide (a.y ≤ m.y) && X)) = false := fun X => by
      rw [Bool.and_eq_false_iff, Bool.and_eq_false_iff, decide_eq_false_iff_not, decide_eq_false_iff_not]
      grind
    rw [e3, e3]
/-- right of the way between p and m, whichever is lower -/
def beside (p m v : Pt) : Bool := if p.y < m.y then rightOf p m v else if m.y < p.y then rightOf m p v else false
theorem edge_any {a b p m : Pt} (hp : p.y < m.y) (nt : Apart (a, b) p m) : (crosses p (a, b) ^^ crosses m (a, b)) = (rightOf p m a ^^ rightOf p m b) := by
  rcases Rat.le_total (a := a.y) (b := b.y) with q | q
  · by_cases e : a.y = b.y
    · rw [cross_flat e, cross_flat e, edge_flat e hp nt]
      simp
    · exact edge_up (by grind) hp nt
  · by_cases e : a.y = b.y
    · rw [cross_flat e, cross_flat e, edge_flat e hp nt]
      simp
    · have := edge_up (a := b) (b := a) (by grind) hp nt.swap
      rw [cross_swap a b, cross_swap a b] at this
      rw [this, Bool.xor_comm]
theorem cross_level {a b p m : Pt} (hp : p.y = m.y) (nt : Apart (a, b) p m) : crosses p (a, b) = crosses m (a, b) := by
  have up : ∀ {a b : Pt}, a.y < b.y → Apart (a, b) p m → crosses p (a, b) = crosses m (a, b) := fun {a b} h nt => by
    rw [cross_up h, cross_up h, ← hp]
    by_cases q : a.y ≤ p.y ∧ p.y < b.y
    · rw [decide_eq_true q.1, decide_eq_true q.2, Bool.true_and, Bool.true_and, Bool.true_and, Bool.true_and, Bool.eq_iff_iff, decide_eq_true_eq, decide_eq_true_eq]
      have no : ∀ s, 0 ≤ s → s ≤ 1 → left a b p + s * (left a b m - left a b p) = 0 → False := fun s c1 c2 c3 => by
        have ez : s * (m.y - p.y) = 0 := by
          rw [show m.y - p.y = 0 by grind]
          exact Rat.mul_zero _
        have on := on_by_height (a := a) (b := b) (v := onWay p m s) h (by show a.y ≤ p.y + s * (m.y - p.y); grind) (by show p.y + s * (m.y - p.y) ≤ b.y; grind) (by rw [left_way]; exact c3)
        rw [nt s c1 c2] at on
        cases on
      have e0 : left a b p + 0 * (left a b m - left a b p) = left a b p := by grind
      have e1 : left a b p + 1 * (left a b m - left a b p) = left a b m := by grind
      constructor
      · intro z
        refine Rat.not_le.mp fun y => ?_
        obtain ⟨s, c1, c2, c3⟩ := zero_between (al := left a b p) (be := left a b m - left a b p) (show (0 : Rat) ≤ 1 by decide) (.inl ⟨by rw [e0]; exact z, by rw [e1]; exact y⟩)
        exact no s c1 c2 c3
      · intro z
        refine Rat.not_le.mp fun y => ?_
        obtain ⟨s, c1, c2, c3⟩ := zero_between (al := left a b p) (be := left a b m - left a b p) (show (0 : Rat) ≤ 1 by decide) (.inr ⟨by rw [e0]; exact y, by rw [e1]; exact z⟩)
        exact no s c1 c2 c3
    · have e3 : ∀ X : Bool, (decide (a.y ≤ p.y) && (decide (p.y < b.y) && X)) = false := fun X => by
        rw [Bool.and_eq_false_iff, Bool.and_eq_false_iff, decide_eq_false_iff_not, decide_eq_false_iff_not]
        grind
      rw [e3, e3]
  by_cases e : a.y = b.y
  · rw [cross_flat e, cross_flat e]
  · rcases Rat.le_total (a := a.y) (b := b.y) with q | q
    · exact up (by grind) nt
    · rw [← cross_swap a b, ← cross_swap a b]
      exact up (by grind) nt.swap
theorem edge_all {a b p m : Pt} (nt : Apart (a, b) p m) : (crosses p (a, b) ^^ crosses m (a, b)) = (beside p m a ^^ beside p m b) := by
  unfold beside
  by_cases h1 : p.y < m.y
  · rw [if_pos h1, if_pos h1]
    exact edge_any h1 nt
  · rw [if_neg h1, if_neg h1]
    by_cases h2 : m.y < p.y
    · rw [if_pos h2, if_pos h2, Bool.xor_comm]
      exact edge_any h2 nt.back
    · rw [if_neg h2, if_neg h2, cross_level (show p.y = m.y by grind) nt]
      simp
/-! round the room -/
def par2 {α : Type} (f : α → Bool) : List α → Bool
  | [] => false
  | a :: l => f a ^^ par2 f l
theorem par2_count {α : Type} (f : α → Bool) : ∀ l : List α, par2 f l = ((l.filter f).length % 2 == 1)
  | [] => rfl
  | a :: l => by
    show (f a ^^ par2 f l) = _
    rw [par2_count f l, List.filter_cons]
    cases f a with
    | false => simp
    | true =>
      rw [if_pos rfl, List.length_cons]
      have : (l.filter f).length % 2 = 0 ∨ (l.filter f).length % 2 = 1 := by omega
      rcases this with e | e
      · rw [e, show ((l.filter f).length + 1) % 2 = 1 by omega]
        rfl
      · rw [e, show ((l.filter f).length + 1) % 2 = 0 by omega]
        rfl
theorem par2_xor {α : Type} (f g : α → Bool) : ∀ l : List α, (par2 f l ^^ par2 g l) = par2 (fun a => f a ^^ g a) l
  | [] => rfl
  | a :: l => by
    show ((f a ^^ par2 f l) ^^ (g a ^^ par2 g l)) = ((f a ^^ g a) ^^ par2 (fun a => f a ^^ g a) l)
    rw [← par2_xor f g l]
    cases f a <;> cases g a <;> cases par2 f l <;> cases par2 g l <;> rfl
theorem par2_congr {α : Type} {f g : α → Bool} : ∀ {l : List α}, (∀ a ∈ l, f a = g a) → par2 f l = par2 g l
  | [], _ => rfl
  | a :: l, h => by
    show (f a ^^ par2 f l) = (g a ^^ par2 g l)
    rw [h a List.mem_cons_self, par2_congr fun b hb => h b (List.mem_cons_of_mem _ hb)]
theorem par2_append {α : Type} (f : α → Bool) : ∀ l k : List α, par2 f (l ++ k) = (par2 f l ^^ par2 f k)
  | [], k => by simp [par2]
  | a :: l, k => by
    show (f a ^^ par2 f (l ++ k)) = ((f a ^^ par2 f l) ^^ par2 f k)
    rw [par2_append f l k, Bool.xor_assoc]
theorem par2_map {α β : Type} (f : β → Bool) (g : α → β) : ∀ l : List α, par2 f (l.map g) = par2 (fun a => f (g a)) l
  | [] => rfl
  | a :: l => by
    show (f (g a) ^^ par2 f (l.map g)) = (f (g a) ^^ par2 (fun a => f (g a)) l)
    rw [par2_map f g l]
theorem par2_round (F : Nat → Bool) : ∀ n : Nat, par2 (fun i => F i ^^ F (i + 1)) (List.range n) = (F 0 ^^ F n)
  | 0 => by simp [par2]
  | n + 1 => by
    rw [List.range_succ, par2_append, par2_round F n]
    show ((F 0 ^^ F n) ^^ ((F n ^^ F (n + 1)) ^^ false)) = _
    cases F 0 <;> cases F n <;> cases F (n + 1) <;> rfl
theorem corner_round (r : Room) : r.corner r.n = r.corner 0 := by
  unfold Room.corner
  rw [Nat.mod_self, Nat.zero_mod]
/-- what is not met changes nothing: the same number of lines, even or odd, is crossed -/
theorem cross_stay {r : Room} {p m : Pt} (nt : ∀ l ∈ r.lines, Apart l p m) : ((r.lines.filter (crosses p)).length % 2 == 1) = ((r.lines.filter (crosses m)).length % 2 == 1) := by
  rw [← par2_count, ← par2_count]
  have e : (par2 (crosses p) r.lines ^^ par2 (crosses m) r.lines) = false := by
    rw [par2_xor, par2_congr (g := fun l => beside p m l.1 ^^ beside p m l.2) (fun l hl => edge_all (nt l hl))]
    unfold Room.lines
    rw [par2_map]
    have := par2_round (fun i => beside p m (r.corner i).at_) r.n
    rw [corner_round, Bool.xor_self] at this
    exact this
  revert e
  cases par2 (crosses p) r.lines <;> cases par2 (crosses m) r.lines <;> simp
theorem way0 (p m : Pt) : onWay p m 0 = p := by
  obtain ⟨a, b, c⟩ := p
  unfold onWay
  congr 1 <;> grind
theorem way1 (p m : Pt) : onWay p m 1 = m := by
  obtain ⟨a, b, c⟩ := p
  obtain ⟨u, v, w⟩ := m
  unfold onWay
  congr 1 <;> grind
theorem within_stay {r : Room} {p m : Pt} (nt : ∀ l ∈ r.lines, Apart l p m) : r.within m = r.within p := by
  have on : ∀ {v : Pt} {s : Rat}, 0 ≤ s → s ≤ 1 → v = onWay p m s → (r.lines.any fun (l : Pt × Pt) => onLine l v) = false := fun {v s} h1 h2 e => by
    subst e
    rw [List.any_eq_false]
    intro l hl
    rw [nt l hl s h1 h2]
    decide
  unfold Room.within
  rw [on (by decide) (by decide) (way0 p m).symm, on (by decide) (by decide) (way1 p m).symm, cross_stay nt]
end Rm

set_option Elab.async false
set_option linter.all false
namespace Rm
open Eh
theorem sq_pos_r {a b : Rat} (h : ¬ (a = 0 ∧ b = 0)) : 0 < a * a + b * b := by
  have sq : ∀ c : Rat, 0 ≤ c * c := fun c => by
    rcases Rat.le_total (a := 0) (b := c) with q | q
    · exact Rat.mul_nonneg q q
    · have := Rat.mul_nonneg (show 0 ≤ -c by grind) (show 0 ≤ -c by grind)
      grind
  have sqp : ∀ c : Rat, c ≠ 0 → 0 < c * c := fun c hc => by
    rcases Rat.le_total (a := 0) (b := c) with q | q
    · exact Rat.mul_pos (by grind) (by grind)
    · exact r_neg_neg (by grind) (by grind)
  have ha := sq a
  have hb := sq b
  by_cases za : a = 0
  · have := sqp b (fun z => h ⟨za, z⟩)
    grind
  · have := sqp a za
    grind
theorem touches_unf (p q : Pt) (l : Pt × Pt) : touches p q l = (if (q.x - p.x) * (l.2.y - l.1.y) - (q.y - p.y) * (l.2.x - l.1.x) ≠ 0 then
      decide (0 < ((l.1.x - p.x) * (l.2.y - l.1.y) - (l.1.y - p.y) * (l.2.x - l.1.x)) / ((q.x - p.x) * (l.2.y - l.1.y) - (q.y - p.y) * (l.2.x - l.1.x))) && (decide (((l.1.x - p.x) * (l.2.y - l.1.y) - (l.1.y - p.y) * (l.2.x - l.1.x)) / ((q.x - p.x) * (l.2.y - l.1.y) - (q.y - p.y) * (l.2.x - l.1.x)) < 1) &&
        (decide (0 ≤ ((l.1.x - p.x) * (q.y - p.y) - (l.1.y - p.y) * (q.x - p.x)) / ((q.x - p.x) * (l.2.y - l.1.y) - (q.y - p.y) * (l.2.x - l.1.x))) && decide (((l.1.x - p.x) * (q.y - p.y) - (l.1.y - p.y) * (q.x - p.x)) / ((q.x - p.x) * (l.2.y - l.1.y) - (q.y - p.y) * (l.2.x - l.1.x)) ≤ 1)))
    else if (l.1.x - p.x) * (q.y - p.y) - (l.1.y - p.y) * (q.x - p.x) ≠ 0 then false
    else if q.x - p.x = 0 ∧ q.y - p.y = 0 then onLine l p
    else decide (min (((l.1.x - p.x) * (q.x - p.x) + (l.1.y - p.y) * (q.y - p.y)) / ((q.x - p.x) * (q.x - p.x) + (q.y - p.y) * (q.y - p.y))) (((l.2.x - p.x) * (q.x - p.x) + (l.2.y - p.y) * (q.y - p.y)) / ((q.x - p.x) * (q.x - p.x) + (q.y - p.y) * (q.y - p.y))) < 1) &&
      decide (0 < max (((l.1.x - p.x) * (q.x - p.x) + (l.1.y - p.y) * (q.y - p.y)) / ((q.x - p.x) * (q.x - p.x) + (q.y - p.y) * (q.y - p.y))) (((l.2.x - p.x) * (q.x - p.x) + (l.2.y - p.y) * (q.y - p.y)) / ((q.x - p.x) * (q.x - p.x) + (q.y - p.y) * (q.y - p.y))))) := by
  rfl
/-- the way meets the line strictly between p and q -/
theorem touches_of {p q : Pt} {l : Pt × Pt} {s : Rat} (h0 : 0 < s) (h1 : s < 1) (h : onLine l (onWay p q s) = true) : touches p q l = true := by
  obtain ⟨u, u0, u1, ex, ey⟩ := on_param h
  have ex : p.x + s * (q.x - p.x) = l.1.x + u * (l.2.x - l.1.x) := ex
  have ey : p.y + s * (q.y - p.y) = l.1.y + u * (l.2.y - l.1.y) := ey
  have eT : (l.1.x - p.x) * (l.2.y - l.1.y) - (l.1.y - p.y) * (l.2.x - l.1.x) = s * ((q.x - p.x) * (l.2.y - l.1.y) - (q.y - p.y) * (l.2.x - l.1.x)) := by grind
  have eU : (l.1.x - p.x) * (q.y - p.y) - (l.1.y - p.y) * (q.x - p.x) = u * ((q.x - p.x) * (l.2.y - l.1.y) - (q.y - p.y) * (l.2.x - l.1.x)) := by grind
  rw [touches_unf, eT, eU]
  by_cases hD : (q.x - p.x) * (l.2.y - l.1.y) - (q.y - p.y) * (l.2.x - l.1.x) = 0
  · rw [if_neg (fun z => z hD), hD, if_neg (fun z => z (Rat.mul_zero u))]
    by_cases hd : q.x - p.x = 0 ∧ q.y - p.y = 0
    · rw [if_pos hd]
      rw [onLine_plan (w := onWay p q s) (by show p.x = p.x + s * (q.x - p.x); rw [hd.1]; grind) (by show p.y = p.y + s * (q.y - p.y); rw [hd.2]; grind)]
      exact h
    · rw [if_neg hd]
      have S := sq_pos_r hd
      have S0 : (q.x - p.x) * (q.x - p.x) + (q.y - p.y) * (q.y - p.y) ≠ 0 := by grind
      have q1 : ((l.1.x - p.x) * (q.x - p.x) + (l.1.y - p.y) * (q.y - p.y)) / ((q.x - p.x) * (q.x - p.x) + (q.y - p.y) * (q.y - p.y)) * ((q.x - p.x) * (q.x - p.x) + (q.y - p.y) * (q.y - p.y)) = (l.1.x - p.x) * (q.x - p.x) + (l.1.y - p.y) * (q.y - p.y) := Rat.div_mul_cancel S0
      have q2 : ((l.2.x - p.x) * (q.x - p.x) + (l.2.y - p.y) * (q.y - p.y)) / ((q.x - p.x) * (q.x - p.x) + (q.y - p.y) * (q.y - p.y)) * ((q.x - p.x) * (q.x - p.x) + (q.y - p.y) * (q.y - p.y)) = (l.2.x - p.x) * (q.x - p.x) + (l.2.y - p.y) * (q.y - p.y) := Rat.div_mul_cancel S0
      generalize ((l.1.x - p.x) * (q.x - p.x) + (l.1.y - p.y) * (q.y - p.y)) / ((q.x - p.x) * (q.x - p.x) + (q.y - p.y) * (q.y - p.y)) = ta at q1 ⊢
      generalize ((l.2.x - p.x) * (q.x - p.x) + (l.2.y - p.y) * (q.y - p.y)) / ((q.x - p.x) * (q.x - p.x) + (q.y - p.y) * (q.y - p.y)) = tb at q2 ⊢
      have es : ((q.x - p.x) * (q.x - p.x) + (q.y - p.y) * (q.y - p.y)) * (s - (ta + u * (tb - ta))) = 0 := by grind
      have es' := mul_cancel0 S0 es
      have sb := seg_between (a := ta) (b := tb) u0 u1
      rw [Bool.and_eq_true, decide_eq_true_eq, decide_eq_true_eq]
      grind
  · rw [if_pos hD, Rat.mul_div_cancel hD, Rat.mul_div_cancel hD]
    simp only [Bool.and_eq_true, decide_eq_true_eq]
    exact ⟨h0, h1, u0, u1⟩
/-- .. and the other way round -/
theorem touches_ex {p q : Pt} {l : Pt × Pt} (h : touches p q l = true) : ∃ s, 0 < s ∧ s < 1 ∧ onLine l (onWay p q s) = true := by
  rw [touches_unf] at h
  by_cases hD : (q.x - p.x) * (l.2.y - l.1.y) - (q.y - p.y) * (l.2.x - l.1.x) = 0
  · rw [if_neg (fun z => z hD)] at h
    by_cases hU : (l.1.x - p.x) * (q.y - p.y) - (l.1.y - p.y) * (q.x - p.x) = 0
    · rw [if_neg (fun z => z hU)] at h
      by_cases hd : q.x - p.x = 0 ∧ q.y - p.y = 0
      · rw [if_pos hd] at h
        refine ⟨1 / 2, by grind, by grind, ?_⟩
        rw [onLine_plan (w := p) (by show p.x + 1 / 2 * (q.x - p.x) = p.x; rw [hd.1]; grind) (by show p.y + 1 / 2 * (q.y - p.y) = p.y; rw [hd.2]; grind)]
        exact h
      · rw [if_neg hd] at h
        have S := sq_pos_r hd
        have S0 : (q.x - p.x) * (q.x - p.x) + (q.y - p.y) * (q.y - p.y) ≠ 0 := by grind
        have q1 : ((l.1.x - p.x) * (q.x - p.x) + (l.1.y - p.y) * (q.y - p.y)) / ((q.x - p.x) * (q.x - p.x) + (q.y - p.y) * (q.y - p.y)) * ((q.x - p.x) * (q.x - p.x) + (q.y - p.y) * (q.y - p.y)) = (l.1.x - p.x) * (q.x - p.x) + (l.1.y - p.y) * (q.y - p.y) := Rat.div_mul_cancel S0
        have q2 : ((l.2.x - p.x) * (q.x - p.x) + (l.2.y - p.y) * (q.y - p.y)) / ((q.x - p.x) * (q.x - p.x) + (q.y - p.y) * (q.y - p.y)) * ((q.x - p.x) * (q.x - p.x) + (q.y - p.y) * (q.y - p.y)) = (l.2.x - p.x) * (q.x - p.x) + (l.2.y - p.y) * (q.y - p.y) := Rat.div_mul_cancel S0
        generalize ((l.1.x - p.x) * (q.x - p.x) + (l.1.y - p.y) * (q.y - p.y)) / ((q.x - p.x) * (q.x - p.x) + (q.y - p.y) * (q.y - p.y)) = ta at q1 h
        generalize ((l.2.x - p.x) * (q.x - p.x) + (l.2.y - p.y) * (q.y - p.y)) / ((q.x - p.x) * (q.x - p.x) + (q.y - p.y) * (q.y - p.y)) = tb at q2 h
        rw [Bool.and_eq_true, decide_eq_true_eq, decide_eq_true_eq] at h
        -- the ends are p + ta d and p + tb d
        have x1 : l.1.x = p.x + ta * (q.x - p.x) := by
          have : ((q.x - p.x) * (q.x - p.x) + (q.y - p.y) * (q.y - p.y)) * (l.1.x - (p.x + ta * (q.x - p.x))) = 0 := by grind
          have := mul_cancel0 S0 this
          grind
        have y1 : l.1.y = p.y + ta * (q.y - p.y) := by
          have : ((q.x - p.x) * (q.x - p.x) + (q.y - p.y) * (q.y - p.y)) * (l.1.y - (p.y + ta * (q.y - p.y))) = 0 := by grind
          have := mul_cancel0 S0 this
          grind
        have hU2 : (l.2.x - p.x) * (q.y - p.y) - (l.2.y - p.y) * (q.x - p.x) = 0 := by grind
        have x2 : l.2.x = p.x + tb * (q.x - p.x) := by
          have : ((q.x - p.x) * (q.x - p.x) + (q.y - p.y) * (q.y - p.y)) * (l.2.x - (p.x + tb * (q.x - p.x))) = 0 := by grind
          have := mul_cancel0 S0 this
          grind
        have y2 : l.2.y = p.y + tb * (q.y - p.y) := by
          have : ((q.x - p.x) * (q.x - p.x) + (q.y - p.y) * (q.y - p.y)) * (l.2.y - (p.y + tb * (q.y - p.y))) = 0 := by grind
          have := mul_cancel0 S0 this
          grind
        obtain ⟨s, s0, s1, b1, b2⟩ : ∃ s, 0 < s ∧ s < 1 ∧ min ta tb ≤ s ∧ s ≤ max ta tb := by
          by_cases z : 0 < min ta tb
          · exact ⟨min ta tb, z, h.1, by grind, by grind⟩
          · by_cases z2 : max ta tb < 1
            · exact ⟨max ta tb, h.2, z2, by grind, by grind⟩
            · exact ⟨1 / 2, by grind, by grind, by grind, by grind⟩
        refine ⟨s, s0, s1, ?_⟩
        by_cases et : tb - ta = 0
        · refine param_on (u := 0) (by decide) (by decide) ?_ ?_
          · show p.x + s * (q.x - p.x) = _
            have : s = ta := by grind
            rw [this]
            grind
          · show p.y + s * (q.y - p.y) = _
            have : s = ta := by grind
            rw [this]
            grind
        · obtain ⟨u, u0, u1, e⟩ := frac01 (w := s - ta) et (by grind) (by grind)
          refine param_on (u := u) u0 u1 ?_ ?_
          · show p.x + s * (q.x - p.x) = _
            rw [x1, x2]
            grind
          · show p.y + s * (q.y - p.y) = _
            rw [y1, y2]
            grind
    · rw [if_pos hU] at h
      cases h
  · rw [if_pos hD] at h
    have e1 : ((l.1.x - p.x) * (l.2.y - l.1.y) - (l.1.y - p.y) * (l.2.x - l.1.x)) / ((q.x - p.x) * (l.2.y - l.1.y) - (q.y - p.y) * (l.2.x - l.1.x)) * ((q.x - p.x) * (l.2.y - l.1.y) - (q.y - p.y) * (l.2.x - l.1.x)) = (l.1.x - p.x) * (l.2.y - l.1.y) - (l.1.y - p.y) * (l.2.x - l.1.x) := Rat.div_mul_cancel hD
    have e2 : ((l.1.x - p.x) * (q.y - p.y) - (l.1.y - p.y) * (q.x - p.x)) / ((q.x - p.x) * (l.2.y - l.1.y) - (q.y - p.y) * (l.2.x - l.1.x)) * ((q.x - p.x) * (l.2.y - l.1.y) - (q.y - p.y) * (l.2.x - l.1.x)) = (l.1.x - p.x) * (q.y - p.y) - (l.1.y - p.y) * (q.x - p.x) := Rat.div_mul_cancel hD
    generalize ((l.1.x - p.x) * (l.2.y - l.1.y) - (l.1.y - p.y) * (l.2.x - l.1.x)) / ((q.x - p.x) * (l.2.y - l.1.y) - (q.y - p.y) * (l.2.x - l.1.x)) = t at e1 h
    generalize ((l.1.x - p.x) * (q.y - p.y) - (l.1.y - p.y) * (q.x - p.x)) / ((q.x - p.x) * (l.2.y - l.1.y) - (q.y - p.y) * (l.2.x - l.1.x)) = u at e2 h
    simp only [Bool.and_eq_true, decide_eq_true_eq] at h
    obtain ⟨t0, t1, u0, u1⟩ := h
    refine ⟨t, t0, t1, param_on (u := u) u0 u1 ?_ ?_⟩
    · show p.x + t * (q.x - p.x) = _
      have : ((q.x - p.x) * (l.2.y - l.1.y) - (q.y - p.y) * (l.2.x - l.1.x)) * (p.x + t * (q.x - p.x) - (l.1.x + u * (l.2.x - l.1.x))) = 0 := by grind
      have := mul_cancel0 hD this
      grind
    · show p.y + t * (q.y - p.y) = _
      have : ((q.x - p.x) * (l.2.y - l.1.y) - (q.y - p.y) * (l.2.x - l.1.x)) * (p.y + t * (q.y - p.y) - (l.1.y + u * (l.2.y - l.1.y))) = 0 := by grind
      have := mul_cancel0 hD this
      grind
theorem apart_of {p q : Pt} {l : Pt × Pt} (hp : onLine l p = false) (hq : onLine l q = false) (ht : touches p q l = false) : Apart l p q := fun s h0 h1 => by
  cases e : onLine l (onWay p q s) with
  | false => rfl
  | true =>
    by_cases z0 : s = 0
    · rw [z0, way0, hp] at e
      cases e
    · by_cases z1 : s = 1
      · rw [z1, way1, hq] at e
        cases e
      · have := touches_of (by grind) (by grind) e
        rw [ht] at this
        cases this
theorem Apart.part {p q : Pt} {l : Pt × Pt} (h : Apart l p q) {t : Rat} (h0 : 0 ≤ t) (h1 : t ≤ 1) : Apart l p (onWay p q t) := fun s s0 s1 => by
  have e : onWay p (onWay p q t) s = onWay p q (s * t) := by
    unfold onWay
    congr 1 <;> grind
  rw [e]
  refine h (s * t) (Rat.mul_nonneg s0 h0) ?_
  have r1 := Rat.mul_nonneg (show 0 ≤ 1 - s by grind) h0
  grind
/-- both inside and no line touched: the middle is inside -/
theorem mid_inside {r : Room} {p q : Pt} (hp : r.inside p = true) (hq : r.inside q = true) (ht : (r.lines.any (touches p q)) = false) : r.inside (onWay p q (1 / 2)) = true := by
  unfold Room.inside at hp hq ⊢
  simp only [Bool.and_eq_true, decide_eq_true_eq] at hp hq ⊢
  obtain ⟨wp, z1, z2⟩ := hp
  obtain ⟨wq, z3, z4⟩ := hq
  have on : ∀ {v : Pt}, r.within v = true → ∀ l ∈ r.lines, onLine l v = false := fun {v} hv l hl => by
    unfold Room.within at hv
    rw [Bool.and_eq_true, Bool.not_eq_true', List.any_eq_false] at hv
    have := hv.1 l hl
    simpa using this
  rw [List.any_eq_false] at ht
  have nt : ∀ l ∈ r.lines, Apart l p (onWay p q (1 / 2)) := fun l hl => (apart_of (on wp l hl) (on wq l hl) (by simpa using ht l hl)).part (by grind) (by grind)
  refine ⟨?_, ?_, ?_⟩
  · rw [within_stay nt]
    exact wp
  · show 0 < p.z + 1 / 2 * (q.z - p.z)
    grind
  · show p.z + 1 / 2 * (q.z - p.z) < (r.h : Rat)
    grind
theorem sees_iff (r : Room) (p q : Pt) : r.sees p q = (r.inside p && (r.inside q && (p == q || !(r.lines.any (touches p q))))) := by
  unfold Room.sees Room.clear
  cases hp : r.inside p with
  | false => rfl
  | true =>
    cases hq : r.inside q with
    | false => rfl
    | true =>
      cases ht : r.lines.any (touches p q) with
      | true => simp
      | false => simp [mid_inside hp hq ht]
end Rm

set_option Elab.async false
set_option linter.all false
namespace Rm
open Eh
/-- the way from p to q in plan as a line -/
theorem way_line (x y u v : Int) (z w : Rat) {s : Rat} (s0 : 0 ≤ s) (s1 : s ≤ 1) : onLine (Ln.mk x y u v).pts (onWay ⟨x, y, z⟩ ⟨u, v, w⟩ s) = true := param_on (u := s) s0 s1 rfl rfl
theorem line_way {x y u v : Int} (z w : Rat) {o : Pt} (h : onLine (Ln.mk x y u v).pts o = true) : ∃ s, 0 ≤ s ∧ s ≤ 1 ∧ ∀ l, onLine l (onWay ⟨x, y, z⟩ ⟨u, v, w⟩ s) = onLine l o := by
  obtain ⟨s, s0, s1, ex, ey⟩ := on_param h
  exact ⟨s, s0, s1, fun l => onLine_plan ex.symm ey.symm⟩
/-- ends on no line: touched strictly between is the same as having a point in common -/
theorem touches_common {x y u v : Int} {z w : Rat} {l : Ln} (hp : onLine l.pts ⟨x, y, z⟩ = false) (hq : onLine l.pts ⟨u, v, w⟩ = false) : touches ⟨x, y, z⟩ ⟨u, v, w⟩ l.pts = common ⟨x, y, u, v⟩ l := by
  rw [Bool.eq_iff_iff, common_iff]
  constructor
  · intro h
    obtain ⟨s, s0, s1, e⟩ := touches_ex h
    exact ⟨_, way_line x y u v z w (by grind) (by grind), e⟩
  · rintro ⟨o, h1, h2⟩
    obtain ⟨s, s0, s1, e⟩ := line_way z w h1
    have e' := e l.pts
    rw [h2] at e'
    refine touches_of (s := s) ?_ ?_ e'
    · refine Rat.not_le.mp fun q => ?_
      have : s = 0 := by grind
      rw [this, way0, hp] at e'
      cases e'
    · refine Rat.not_le.mp fun q => ?_
      have : s = 1 := by grind
      rw [this, way1, hq] at e'
      cases e'
end Rm

set_option Elab.async false
set_option linter.all false
namespace Rm
open Eh
/-! rooms without fault -/
structure Good (r : Room) : Prop where
  n3 : 3 ≤ r.n
  h1 : 1 ≤ r.h
  dir : ∀ i, i < r.n → dirOk (r.line i) = true
  bend : ∀ i, i < r.n → alongside (r.line i) (r.line (i + 1)) = false
  free : ∀ i j, i < r.n → j < r.n → neighbours r.n i j = false → meet (r.line i) (r.line j) = false
  area : 0 < r.area2
theorem good_of {r : Room} (h : r.fault = none) : Good r := by
  unfold Room.fault at h
  by_cases a1 : r.n < 3 ∨ MOST < r.n
  · rw [if_pos a1] at h
    cases h
  rw [if_neg a1] at h
  by_cases a2 : r.h < 1 ∨ WIDE < r.h ∨ STUFFS ≤ r.floor_ ∨ STUFFS ≤ r.ceiling
  · rw [if_pos a2] at h
    cases h
  rw [if_neg a2] at h
  cases a3 : ((List.range r.n).find? fun (i : Nat) => decide (WIDE < (r.corner i).x) || (decide (WIDE < (r.corner i).y) || (decide ((r.corner i).x < 0) || (decide ((r.corner i).y < 0) || decide (STUFFS ≤ (r.corner i).stuff))))) with
  | some i =>
    rw [a3] at h
    cases h
  | none =>
    rw [a3] at h
    have h : (match (List.range r.n).find? fun (i : Nat) => !dirOk (r.line i) with
      | some i => some (⟨4, i⟩ : Fault)
      | none => match (List.range r.n).find? fun (i : Nat) => alongside (r.line i) (r.line (i + 1)) with
        | some i => some ⟨5, i⟩
        | none => match (List.range r.n).find? fun (i : Nat) => (List.range r.n).any fun (j : Nat) => !neighbours r.n i j && meet (r.line i) (r.line j) with
          | some i => some ⟨6, i⟩
          | none => if r.area2 ≤ 0 then some ⟨7, 0⟩ else none) = none := h
    cases a4 : ((List.range r.n).find? fun (i : Nat) => !dirOk (r.line i)) with
    | some i =>
      rw [a4] at h
      cases h
    | none =>
      rw [a4] at h
      have h : (match (List.range r.n).find? fun (i : Nat) => alongside (r.line i) (r.line (i + 1)) with
        | some i => some (⟨5, i⟩ : Fault)
        | none => match (List.range r.n).find? fun (i : Nat) => (List.range r.n).any fun (j : Nat) => !neighbours r.n i j && meet (r.line i) (r.line j) with
          | some i => some ⟨6, i⟩
          | none => if r.area2 ≤ 0 then some ⟨7, 0⟩ else none) = none := h
      cases a5 : ((List.range r.n).find? fun (i : Nat) => alongside (r.line i) (r.line (i + 1))) with
      | some i =>
        rw [a5] at h
        cases h
      | none =>
        rw [a5] at h
        have h : (match (List.range r.n).find? fun (i : Nat) => (List.range r.n).any fun (j : Nat) => !neighbours r.n i j && meet (r.line i) (r.line j) with
          | some i => some (⟨6, i⟩ : Fault)
          | none => if r.area2 ≤ 0 then some ⟨7, 0⟩ else none) = none := h
        cases a6 : ((List.range r.n).find? fun (i : Nat) => (List.range r.n).any fun (j : Nat) => !neighbours r.n i j && meet (r.line i) (r.line j)) with
        | some i =>
          rw [a6] at h
          cases h
        | none =>
          rw [a6] at h
          have h : (if r.area2 ≤ 0 then some (⟨7, 0⟩ : Fault) else none) = none := h
          by_cases a7 : r.area2 ≤ 0
          · rw [if_pos a7] at h
            cases h
          · refine ⟨by omega, by omega, fun i hi => ?_, fun i hi => find_none_all a5 hi, fun i j hi hj hn => ?_, by omega⟩
            · have := find_none_all a4 hi
              simpa using this
            · have := find_none_all a6 hi
              rw [List.any_eq_false] at this
              have := this j (List.mem_range.mpr hj)
              rw [hn] at this
              simpa using this
theorem mem_lines {r : Room} {l : Pt × Pt} : l ∈ r.lines ↔ ∃ i, i < r.n ∧ l = r.line i := by
  unfold Room.lines
  rw [List.mem_map]
  constructor
  · rintro ⟨i, hi, e⟩
    exact ⟨i, List.mem_range.mp hi, e.symm⟩
  · rintro ⟨i, hi, e⟩
    exact ⟨i, List.mem_range.mpr hi, e.symm⟩
/-! how a way meets a line that it does not run along -/
def cross2 (p q : Pt) (l : Pt × Pt) : Rat := (q.x - p.x) * (l.2.y - l.1.y) - (q.y - p.y) * (l.2.x - l.1.x)
theorem meetsAt_unf {r : Room} {p q : Pt} {w : Nat} (hw : w < r.n) : r.meetsAt p q w = if cross2 p q (r.line w) = 0 then none else
      if 0 < (((r.line w).1.x - p.x) * ((r.line w).2.y - (r.line w).1.y) - ((r.line w).1.y - p.y) * ((r.line w).2.x - (r.line w).1.x)) / cross2 p q (r.line w) ∧
        0 ≤ (((r.line w).1.x - p.x) * (q.y - p.y) - ((r.line w).1.y - p.y) * (q.x - p.x)) / cross2 p q (r.line w) ∧ (((r.line w).1.x - p.x) * (q.y - p.y) - ((r.line w).1.y - p.y) * (q.x - p.x)) / cross2 p q (r.line w) ≤ 1
      then some ((((r.line w).1.x - p.x) * ((r.line w).2.y - (r.line w).1.y) - ((r.line w).1.y - p.y) * ((r.line w).2.x - (r.line w).1.x)) / cross2 p q (r.line w)) else none := by
  unfold Room.meetsAt
  rw [if_pos hw]
  rfl
theorem meetsAt_of {r : Room} {p q : Pt} {w : Nat} {s : Rat} (hw : w < r.n) (h0 : 0 < s) (hD : cross2 p q (r.line w) ≠ 0) (h : onLine (r.line w) (onWay p q s) = true) : r.meetsAt p q w = some s := by
  obtain ⟨u, u0, u1, ex, ey⟩ := on_param h
  have ex : p.x + s * (q.x - p.x) = (r.line w).1.x + u * ((r.line w).2.x - (r.line w).1.x) := ex
  have ey : p.y + s * (q.y - p.y) = (r.line w).1.y + u * ((r.line w).2.y - (r.line w).1.y) := ey
  have eT : ((r.line w).1.x - p.x) * ((r.line w).2.y - (r.line w).1.y) - ((r.line w).1.y - p.y) * ((r.line w).2.x - (r.line w).1.x) = s * cross2 p q (r.line w) := by
    unfold cross2
    grind
  have eU : ((r.line w).1.x - p.x) * (q.y - p.y) - ((r.line w).1.y - p.y) * (q.x - p.x) = u * cross2 p q (r.line w) := by
    unfold cross2
    grind
  rw [meetsAt_unf hw, if_neg hD, eT, eU, Rat.mul_div_cancel hD, Rat.mul_div_cancel hD, if_pos ⟨h0, u0, u1⟩]
theorem of_meetsAt {r : Room} {p q : Pt} {w : Nat} {t : Rat} (hw : w < r.n) (h : r.meetsAt p q w = some t) : 0 < t ∧ cross2 p q (r.line w) ≠ 0 ∧ onLine (r.line w) (onWay p q t) = true := by
  rw [meetsAt_unf hw] at h
  by_cases hD : cross2 p q (r.line w) = 0
  · rw [if_pos hD] at h
    cases h
  · rw [if_neg hD] at h
    generalize e1 : (((r.line w).1.x - p.x) * ((r.line w).2.y - (r.line w).1.y) - ((r.line w).1.y - p.y) * ((r.line w).2.x - (r.line w).1.x)) / cross2 p q (r.line w) = t' at h
    generalize e2 : (((r.line w).1.x - p.x) * (q.y - p.y) - ((r.line w).1.y - p.y) * (q.x - p.x)) / cross2 p q (r.line w) = u at h
    by_cases c : 0 < t' ∧ 0 ≤ u ∧ u ≤ 1
    · rw [if_pos c] at h
      have : t' = t := Option.some.inj h
      subst this
      have f1 : t' * cross2 p q (r.line w) = ((r.line w).1.x - p.x) * ((r.line w).2.y - (r.line w).1.y) - ((r.line w).1.y - p.y) * ((r.line w).2.x - (r.line w).1.x) := by rw [← e1, Rat.div_mul_cancel hD]
      have f2 : u * cross2 p q (r.line w) = ((r.line w).1.x - p.x) * (q.y - p.y) - ((r.line w).1.y - p.y) * (q.x - p.x) := by rw [← e2, Rat.div_mul_cancel hD]
      refine ⟨c.1, hD, param_on (u := u) c.2.1 c.2.2 ?_ ?_⟩
      · show p.x + t' * (q.x - p.x) = _
        have : cross2 p q (r.line w) * (p.x + t' * (q.x - p.x) - ((r.line w).1.x + u * ((r.line w).2.x - (r.line w).1.x))) = 0 := by
          have : cross2 p q (r.line w) * (p.x + t' * (q.x - p.x) - ((r.line w).1.x + u * ((r.line w).2.x - (r.line w).1.x))) = cross2 p q (r.line w) * (p.x - (r.line w).1.x) + (t' * cross2 p q (r.line w)) * (q.x - p.x) - (u * cross2 p q (r.line w)) * ((r.line w).2.x - (r.line w).1.x) := by grind
          rw [this, f1, f2]
          unfold cross2
          grind
        have := mul_cancel0 hD this
        grind
      · show p.y + t' * (q.y - p.y) = _
        have : cross2 p q (r.line w) * (p.y + t' * (q.y - p.y) - ((r.line w).1.y + u * ((r.line w).2.y - (r.line w).1.y))) = 0 := by
          have : cross2 p q (r.line w) * (p.y + t' * (q.y - p.y) - ((r.line w).1.y + u * ((r.line w).2.y - (r.line w).1.y))) = cross2 p q (r.line w) * (p.y - (r.line w).1.y) + (t' * cross2 p q (r.line w)) * (q.y - p.y) - (u * cross2 p q (r.line w)) * ((r.line w).2.y - (r.line w).1.y) := by grind
          rw [this, f1, f2]
          unfold cross2
          grind
        have := mul_cancel0 hD this
        grind
    · rw [if_neg c] at h
      cases h
theorem line_ends (r : Room) (i : Nat) : (r.line i).2 = (r.line (i + 1)).1 := rfl
theorem line_first {r : Room} {i : Nat} (h0 : 0 < r.n) (hi : i < r.n) : ∃ j, j < r.n ∧ (r.line j).2 = (r.line i).1 ∧ r.line (j + 1) = r.line i := by
  by_cases z : i = 0
  · refine ⟨r.n - 1, by omega, ?_, ?_⟩
    · rw [line_ends, show r.n - 1 + 1 = r.n by omega, ← line_mod r r.n, Nat.mod_self, z]
    · rw [show r.n - 1 + 1 = r.n by omega, ← line_mod r r.n, Nat.mod_self, z]
  · refine ⟨i - 1, by omega, ?_, ?_⟩
    · rw [line_ends, show i - 1 + 1 = i by omega]
    · rw [show i - 1 + 1 = i by omega]
theorem line_next {r : Room} {i : Nat} (h0 : 0 < r.n) : ∃ j, j < r.n ∧ r.line j = r.line (i + 1) := ⟨(i + 1) % r.n, Nat.mod_lt _ h0, line_mod r (i + 1)⟩
/-- a way that runs along a line comes to it at a corner, where the neighbour is not alongside -/
theorem parallel_hit {r : Room} (G : Good r) {p q : Pt} {i : Nat} {s : Rat} (hi : i < r.n) (hs : 0 < s) (hp : onLine (r.line i) p = false) (hD : cross2 p q (r.line i) = 0) (h : onLine (r.line i) (onWay p q s) = true) :
    ∃ j s', j < r.n ∧ 0 < s' ∧ s' ≤ s ∧ r.meetsAt p q j = some s' := by
  have n0 : 0 < r.n := by have := G.n3; omega
  obtain ⟨u, u0, u1, ex, ey⟩ := on_param h
  have ex : p.x + s * (q.x - p.x) = (r.line i).1.x + u * ((r.line i).2.x - (r.line i).1.x) := ex
  have ey : p.y + s * (q.y - p.y) = (r.line i).1.y + u * ((r.line i).2.y - (r.line i).1.y) := ey
  -- the way has a direction in plan
  have hd : ¬ (q.x - p.x = 0 ∧ q.y - p.y = 0) := fun z => by
    have e : onLine (r.line i) p = onLine (r.line i) (onWay p q s) := onLine_plan (by show p.x = p.x + s * (q.x - p.x); rw [z.1]; grind) (by show p.y = p.y + s * (q.y - p.y); rw [z.2]; grind)
    rw [hp, h] at e
    cases e
  have S := sq_pos_r hd
  have S0 : (q.x - p.x) * (q.x - p.x) + (q.y - p.y) * (q.y - p.y) ≠ 0 := by grind
  have dD : (q.x - p.x) * ((r.line i).2.y - (r.line i).1.y) - (q.y - p.y) * ((r.line i).2.x - (r.line i).1.x) = 0 := hD
  -- the line's two ends on the way
  have ends : ∃ ta tb : Rat, (r.line i).1.x = p.x + ta * (q.x - p.x) ∧ (r.line i).1.y = p.y + ta * (q.y - p.y) ∧ (r.line i).2.x = p.x + tb * (q.x - p.x) ∧ (r.line i).2.y = p.y + tb * (q.y - p.y) ∧ s = ta + u * (tb - ta) := by
    have q1 : (((r.line i).1.x - p.x) * (q.x - p.x) + ((r.line i).1.y - p.y) * (q.y - p.y)) / ((q.x - p.x) * (q.x - p.x) + (q.y - p.y) * (q.y - p.y)) * ((q.x - p.x) * (q.x - p.x) + (q.y - p.y) * (q.y - p.y)) = ((r.line i).1.x - p.x) * (q.x - p.x) + ((r.line i).1.y - p.y) * (q.y - p.y) := Rat.div_mul_cancel S0
    have q2 : (((r.line i).2.x - p.x) * (q.x - p.x) + ((r.line i).2.y - p.y) * (q.y - p.y)) / ((q.x - p.x) * (q.x - p.x) + (q.y - p.y) * (q.y - p.y)) * ((q.x - p.x) * (q.x - p.x) + (q.y - p.y) * (q.y - p.y)) = ((r.line i).2.x - p.x) * (q.x - p.x) + ((r.line i).2.y - p.y) * (q.y - p.y) := Rat.div_mul_cancel S0
    generalize (((r.line i).1.x - p.x) * (q.x - p.x) + ((r.line i).1.y - p.y) * (q.y - p.y)) / ((q.x - p.x) * (q.x - p.x) + (q.y - p.y) * (q.y - p.y)) = ta at q1
    generalize (((r.line i).2.x - p.x) * (q.x - p.x) + ((r.line i).2.y - p.y) * (q.y - p.y)) / ((q.x - p.x) * (q.x - p.x) + (q.y - p.y) * (q.y - p.y)) = tb at q2
    have c1 : ((r.line i).1.x - p.x) * (q.y - p.y) - ((r.line i).1.y - p.y) * (q.x - p.x) = 0 := by grind
    have c2 : ((r.line i).2.x - p.x) * (q.y - p.y) - ((r.line i).2.y - p.y) * (q.x - p.x) = 0 := by grind
    refine ⟨ta, tb, ?_, ?_, ?_, ?_, ?_⟩
    · have : ((q.x - p.x) * (q.x - p.x) + (q.y - p.y) * (q.y - p.y)) * ((r.line i).1.x - (p.x + ta * (q.x - p.x))) = 0 := by grind
      have := mul_cancel0 S0 this
      grind
    · have : ((q.x - p.x) * (q.x - p.x) + (q.y - p.y) * (q.y - p.y)) * ((r.line i).1.y - (p.y + ta * (q.y - p.y))) = 0 := by grind
      have := mul_cancel0 S0 this
      grind
    · have : ((q.x - p.x) * (q.x - p.x) + (q.y - p.y) * (q.y - p.y)) * ((r.line i).2.x - (p.x + tb * (q.x - p.x))) = 0 := by grind
      have := mul_cancel0 S0 this
      grind
    · have : ((q.x - p.x) * (q.x - p.x) + (q.y - p.y) * (q.y - p.y)) * ((r.line i).2.y - (p.y + tb * (q.y - p.y))) = 0 := by grind
      have := mul_cancel0 S0 this
      grind
    · have : ((q.x - p.x) * (q.x - p.x) + (q.y - p.y) * (q.y - p.y)) * (s - (ta + u * (tb - ta))) = 0 := by grind
      have := mul_cancel0 S0 this
      grind
  obtain ⟨ta, tb, x1, y1, x2, y2, es⟩ := ends
  -- p is not between them
  have out : ∀ w, 0 ≤ w → w ≤ 1 → ta + w * (tb - ta) = 0 → False := fun w w0 w1 e => by
    have : onLine (r.line i) p = true := param_on (u := w) w0 w1 (by rw [x1, x2]; grind) (by rw [y1, y2]; grind)
    rw [hp] at this
    cases this
  have pos : 0 < ta ∧ 0 < tb := by
    constructor
    · refine Rat.not_le.mp fun z => ?_
      obtain ⟨w, w0, w1, e⟩ := zero_between (al := ta) (be := tb - ta) (s1 := 0) (s2 := u) u0 (.inr ⟨by grind, by grind⟩)
      exact out w w0 (by grind) e
    · refine Rat.not_le.mp fun z => ?_
      obtain ⟨w, w0, w1, e⟩ := zero_between (al := ta) (be := tb - ta) (s1 := u) (s2 := 1) u1 (.inl ⟨by grind, by grind⟩)
      exact out w (by grind) w1 e
  -- the neighbour at either end
  have hit : ∀ (j : Nat) (s' : Rat) (c : Pt), j < r.n → 0 < s' → c.x = p.x + s' * (q.x - p.x) → c.y = p.y + s' * (q.y - p.y) → onLine (r.line j) c = true →
      (((r.line i).2.x - (r.line i).1.x) * ((r.line j).2.y - (r.line j).1.y) - ((r.line i).2.y - (r.line i).1.y) * ((r.line j).2.x - (r.line j).1.x) ≠ 0) → r.meetsAt p q j = some s' := fun j s' c hj h0 cx cy on ne => by
    refine meetsAt_of hj h0 (fun z => ne ?_) ?_
    · have z : (q.x - p.x) * ((r.line j).2.y - (r.line j).1.y) - (q.y - p.y) * ((r.line j).2.x - (r.line j).1.x) = 0 := z
      rw [x1, x2, y1, y2]
      grind
    · rw [onLine_plan (w := c) (by show p.x + s' * (q.x - p.x) = c.x; rw [cx]) (by show p.y + s' * (q.y - p.y) = c.y; rw [cy])]
      exact on
  rcases Rat.le_total (a := ta) (b := tb) with o | o
  · obtain ⟨j, hj, je, jn⟩ := line_first n0 hi
    refine ⟨j, ta, hj, pos.1, ?_, hit j ta (r.line i).1 hj pos.1 x1 y1 ?_ ?_⟩
    · have := Rat.mul_nonneg u0 (show 0 ≤ tb - ta by grind)
      grind
    · rw [← je]
      exact param_on (u := 1) (by decide) (by decide) (by grind) (by grind)
    · have b := G.bend j hj
      rw [jn] at b
      unfold alongside at b
      rw [beq_eq_false_iff_ne] at b
      intro z
      exact b (by grind)
  · obtain ⟨j, hj, je⟩ := line_next (i := i) n0
    refine ⟨j, tb, hj, pos.2, ?_, hit j tb (r.line i).2 hj pos.2 x2 y2 ?_ ?_⟩
    · have := Rat.mul_nonneg (show 0 ≤ 1 - u by grind) (show 0 ≤ ta - tb by grind)
      grind
    · rw [je, line_ends]
      exact param_on (u := 0) (by decide) (by decide) (by grind) (by grind)
    · have b := G.bend i hi
      rw [← je] at b
      unfold alongside at b
      rw [beq_eq_false_iff_ne] at b
      exact b
/-- ahead of the first place where a wall is met nothing is touched -/
theorem before_first {r : Room} (G : Good r) {p q : Pt} (hp : ∀ l ∈ r.lines, onLine l p = false) {T : Rat} (hT : ∀ w t, w < r.n → r.meetsAt p q w = some t → T ≤ t) {s : Rat} (h0 : 0 ≤ s) (h1 : s < T) : ∀ l ∈ r.lines, onLine l (onWay p q s) = false := by
  intro l hl
  obtain ⟨i, hi, rfl⟩ := mem_lines.mp hl
  cases e : onLine (r.line i) (onWay p q s) with
  | false => rfl
  | true =>
    exfalso
    have hpi := hp _ hl
    have s0 : 0 < s := by
      refine Rat.not_le.mp fun z => ?_
      have : s = 0 := by grind
      rw [this, way0, hpi] at e
      cases e
    by_cases hD : cross2 p q (r.line i) = 0
    · obtain ⟨j, s', hj, a, b, c⟩ := parallel_hit G hi s0 hpi hD e
      have := hT j s' hj c
      grind
    · have := hT i s hi (meetsAt_of hi s0 hD e)
      grind
theorem on_within {r : Room} {v : Pt} (hv : r.within v = true) : ∀ l ∈ r.lines, onLine l v = false := fun l hl => by
  unfold Room.within at hv
  rw [Bool.and_eq_true, Bool.not_eq_true', List.any_eq_false] at hv
  have := hv.1 l hl
  simpa using this
/-- ahead of the first place the way is within the lines -/
theorem within_before {r : Room} (G : Good r) {p q : Pt} (hp : r.within p = true) {T : Rat} (hT : ∀ w t, w < r.n → r.meetsAt p q w = some t → T ≤ t) {s : Rat} (h0 : 0 ≤ s) (h1 : s < T) : r.within (onWay p q s) = true := by
  have nt : ∀ l ∈ r.lines, Apart l p (onWay p q s) := fun l hl w w0 w1 => by
    have e : onWay p (onWay p q s) w = onWay p q (w * s) := by
      unfold onWay
      congr 1 <;> grind
    rw [e]
    have r1 := Rat.mul_nonneg (show 0 ≤ 1 - w by grind) h0
    exact before_first G (on_within hp) hT (Rat.mul_nonneg w0 h0) (by grind) l hl
  rw [within_stay nt]
  exact hp
/-- .. and at that place too, if it is on no line -/
theorem within_at {r : Room} (G : Good r) {p q : Pt} (hp : r.within p = true) {T : Rat} (T0 : 0 ≤ T) (hT : ∀ w t, w < r.n → r.meetsAt p q w = some t → T ≤ t) (no : ∀ l ∈ r.lines, onLine l (onWay p q T) = false) : r.within (onWay p q T) = true := by
  have nt : ∀ l ∈ r.lines, Apart l p (onWay p q T) := fun l hl w w0 w1 => by
    have e : onWay p (onWay p q T) w = onWay p q (w * T) := by
      unfold onWay
      congr 1 <;> grind
    rw [e]
    by_cases z : w * T = T
    · rw [z]
      exact no l hl
    · have r1 := Rat.mul_nonneg (show 0 ≤ 1 - w by grind) T0
      exact before_first G (on_within hp) hT (Rat.mul_nonneg w0 T0) (by grind) l hl
  rw [within_stay nt]
  exact hp
end Rm

set_option Elab.async false
set_option linter.all false
namespace Rm
open Eh
/-! three fractions over one number -/
theorem div_dvd {W a g : Nat} (hW : 0 < W) (ha : a ∣ W) (hg : g ∣ a) : W / a ∣ W / g := by
  obtain ⟨c, hc⟩ := hg
  obtain ⟨d, hd⟩ := ha
  have a0 : 0 < a := Nat.pos_of_ne_zero fun z => by rw [z, Nat.zero_mul] at hd; omega
  have g0 : 0 < g := Nat.pos_of_ne_zero fun z => by rw [z, Nat.zero_mul] at hc; omega
  have e1 : W / a = d := by rw [hd, Nat.mul_div_cancel_left d a0]
  have e2 : W / g = c * d := by rw [hd, hc, Nat.mul_assoc, Nat.mul_div_cancel_left _ g0]
  rw [e1, e2]
  exact Nat.dvd_mul_left d c
theorem lcm_div {W a b : Nat} (hW : 0 < W) (ha : a ∣ W) (hb : b ∣ W) : Nat.lcm (W / a) (W / b) = W / Nat.gcd a b := by
  have g1 : Nat.gcd a b ∣ a := Nat.gcd_dvd_left a b
  have g2 : Nat.gcd a b ∣ b := Nat.gcd_dvd_right a b
  have a0 : 0 < a := Nat.pos_of_dvd_of_pos ha hW
  have g0 : 0 < Nat.gcd a b := Nat.pos_of_dvd_of_pos g1 a0
  refine Nat.dvd_antisymm (Nat.lcm_dvd ?_ ?_) ?_
  · exact div_dvd hW ha g1
  · exact div_dvd hW hb g2
  · have h1 : W ∣ a * Nat.lcm (W / a) (W / b) := by
      have : W / a ∣ Nat.lcm (W / a) (W / b) := Nat.dvd_lcm_left _ _
      have := Nat.mul_dvd_mul_left a this
      rw [Nat.mul_div_cancel' ha] at this
      exact this
    have h2 : W ∣ b * Nat.lcm (W / a) (W / b) := by
      have : W / b ∣ Nat.lcm (W / a) (W / b) := Nat.dvd_lcm_right _ _
      have := Nat.mul_dvd_mul_left b this
      rw [Nat.mul_div_cancel' hb] at this
      exact this
    have h3 : W ∣ Nat.gcd a b * Nat.lcm (W / a) (W / b) := by
      rw [← Nat.gcd_mul_right]
      exact Nat.dvd_gcd h1 h2
    have h4 : Nat.gcd a b ∣ W := Nat.dvd_trans g1 ha
    exact Nat.dvd_of_mul_dvd_mul_left g0 (by rw [Nat.mul_div_cancel' h4]; exact h3)
theorem frac_num (X : Int) {W : Nat} (hW : 0 < W) : ((X : Rat) / ((W : Nat) : Rat)).num = X / ((Nat.gcd W X.natAbs : Nat) : Int) := by
  rw [← Rat.mkRat_eq_div, Rat.num_mkRat, if_neg (by omega)]
theorem frac_den (X : Int) {W : Nat} (hW : 0 < W) : ((X : Rat) / ((W : Nat) : Rat)).den = W / Nat.gcd W X.natAbs := by
  rw [← Rat.mkRat_eq_div, Rat.den_mkRat, if_neg (by omega)]
theorem told_of {X Y Z : Int} {W : Nat} (hW : 0 < W) (hg : ∀ k : Nat, (k : Int) ∣ X → (k : Int) ∣ Y → (k : Int) ∣ Z → k ∣ W → k = 1) :
    told ⟨(X : Rat) / ((W : Nat) : Rat), (Y : Rat) / ((W : Nat) : Rat), (Z : Rat) / ((W : Nat) : Rat)⟩ = [X, Y, Z, (W : Int)] := by
  have dx : Nat.gcd W X.natAbs ∣ W := Nat.gcd_dvd_left _ _
  have dy : Nat.gcd W Y.natAbs ∣ W := Nat.gcd_dvd_left _ _
  have dz : Nat.gcd W Z.natAbs ∣ W := Nat.gcd_dvd_left _ _
  have g1 : Nat.gcd (Nat.gcd W X.natAbs) (Nat.gcd (Nat.gcd W Y.natAbs) (Nat.gcd W Z.natAbs)) = 1 := by
    refine hg _ ?_ ?_ ?_ ?_
    · exact Int.ofNat_dvd_left.mpr (Nat.dvd_trans (Nat.gcd_dvd_left _ _) (Nat.gcd_dvd_right _ _))
    · exact Int.ofNat_dvd_left.mpr (Nat.dvd_trans (Nat.dvd_trans (Nat.gcd_dvd_right _ _) (Nat.gcd_dvd_left _ _)) (Nat.gcd_dvd_right _ _))
    · exact Int.ofNat_dvd_left.mpr (Nat.dvd_trans (Nat.dvd_trans (Nat.gcd_dvd_right _ _) (Nat.gcd_dvd_right _ _)) (Nat.gcd_dvd_right _ _))
    · exact Nat.dvd_trans (Nat.gcd_dvd_left _ _) dx
  have ed : Nat.lcm (W / Nat.gcd W X.natAbs) (Nat.lcm (W / Nat.gcd W Y.natAbs) (W / Nat.gcd W Z.natAbs)) = W := by
    rw [lcm_div hW dy dz, lcm_div hW dx (Nat.dvd_trans (Nat.gcd_dvd_left _ _) dy), g1, Nat.div_one]
  have one : ∀ V : Int, V / ((Nat.gcd W V.natAbs : Nat) : Int) * ((W / (W / Nat.gcd W V.natAbs) : Nat) : Int) = V := fun V => by
    have h1 : Nat.gcd W V.natAbs ∣ W := Nat.gcd_dvd_left _ _
    have h0 : 0 < Nat.gcd W V.natAbs := Nat.pos_of_dvd_of_pos h1 hW
    rw [Nat.div_div_self h1 (by omega)]
    exact Int.ediv_mul_cancel (Int.ofNat_dvd_left.mpr (Nat.gcd_dvd_right _ _))
  unfold told
  simp only [frac_num _ hW, frac_den _ hW]
  rw [ed, one, one, one]
/-! the least of some fractions -/
theorem least_none : ∀ (l : List Rat) (m : Option Rat), l.foldl (fun (m : Option Rat) (t : Rat) => match m with
    | none => some t
    | some s => some (min s t)) m = none ↔ (m = none ∧ l = [])
  | [], m => by simp
  | t :: l, none => by
    rw [List.foldl_cons]
    show l.foldl _ (some t) = none ↔ _
    rw [least_none l (some t)]
    simp
  | t :: l, some s => by
    rw [List.foldl_cons]
    show l.foldl _ (some (min s t)) = none ↔ _
    rw [least_none l (some (min s t))]
    simp
theorem least_some : ∀ (l : List Rat) (m : Option Rat) (T : Rat), l.foldl (fun (m : Option Rat) (t : Rat) => match m with
    | none => some t
    | some s => some (min s t)) m = some T ↔ ((m = some T ∨ T ∈ l) ∧ (∀ s, m = some s → T ≤ s) ∧ ∀ t ∈ l, T ≤ t)
  | [], m, T => by
    simp only [List.foldl_nil, List.not_mem_nil, or_false, false_implies, implies_true, and_true]
    constructor
    · intro h
      exact ⟨h, fun s e => by rw [h] at e; cases e; exact Rat.le_refl⟩
    · exact fun h => h.1
  | t :: l, none, T => by
    rw [List.foldl_cons]
    show l.foldl _ (some t) = some T ↔ _
    rw [least_some l (some t) T]
    simp only [List.mem_cons, Option.some.injEq]
    constructor
    · rintro ⟨a, b, c⟩
      refine ⟨.inr ?_, fun s e => (by cases e), ?_⟩
      · rcases a with e | e
        · exact .inl e.symm
        · exact .inr e
      · rintro s (e | e)
        · rw [e]; exact b t rfl
        · exact c s e
    · rintro ⟨a, b, c⟩
      refine ⟨?_, fun s e => by rw [← e]; exact c t (.inl rfl), fun s e => c s (.inr e)⟩
      rcases a with e | e | e
      · cases e
      · exact .inl e.symm
      · exact .inr e
  | t :: l, some s, T => by
    rw [List.foldl_cons]
    show l.foldl _ (some (min s t)) = some T ↔ _
    rw [least_some l (some (min s t)) T]
    simp only [List.mem_cons, Option.some.injEq]
    constructor
    · rintro ⟨a, b, c⟩
      have b' := b _ rfl
      refine ⟨?_, fun x e => by subst e; grind, ?_⟩
      · rcases a with e | e
        · by_cases q : s ≤ t
          · left; grind
          · right; left; grind
        · exact .inr (.inr e)
      · rintro x (e | e)
        · subst e; grind
        · exact c x e
    · rintro ⟨a, b, c⟩
      have b' := b s rfl
      have c' := c t (.inl rfl)
      refine ⟨?_, fun x e => by subst e; grind, fun x e => c x (.inr e)⟩
      rcases a with e | e | e
      · left; grind
      · left; grind
      · exact .inr e
/-- what `ahead` looks at: the first place, if there is one -/
def firstAt (r : Room) (p q : Pt) : Option Rat := ((List.range r.walls).filterMap (r.meetsAt p q)).foldl (fun (m : Option Rat) (t : Rat) => match m with
    | none => some t
    | some s => some (min s t)) none
theorem ahead_first (r : Room) (p q : Pt) : r.ahead p q = match firstAt r p q with
    | none => none
    | some t => ((List.range r.walls).find? fun (w : Nat) => r.inWall w (onWay p q t)).map fun (w : Nat) => (w, onWay p q t) := rfl
theorem firstAt_some {r : Room} {p q : Pt} {T : Rat} : firstAt r p q = some T ↔ ((∃ w, w < r.walls ∧ r.meetsAt p q w = some T) ∧ ∀ w t, w < r.walls → r.meetsAt p q w = some t → T ≤ t) := by
  unfold firstAt
  rw [least_some]
  simp only [List.mem_filterMap, List.mem_range]
  constructor
  · rintro ⟨a, _, c⟩
    refine ⟨?_, fun w t hw e => c t ⟨w, hw, e⟩⟩
    rcases a with e | ⟨w, hw, e⟩
    · cases e
    · exact ⟨w, hw, e⟩
  · rintro ⟨⟨w, hw, e⟩, c⟩
    exact ⟨.inr ⟨w, hw, e⟩, fun s e => (by cases e), fun t ⟨w, hw, e⟩ => c w t hw e⟩
theorem firstAt_none {r : Room} {p q : Pt} : firstAt r p q = none ↔ ∀ w, w < r.walls → r.meetsAt p q w = none := by
  unfold firstAt
  rw [least_none]
  simp only [true_and, List.filterMap_eq_nil_iff, List.mem_range]
end Rm

set_option Elab.async false
set_option linter.all false
namespace Rm
open Eh
/-! ### the program's own way to tell a point's place -/
theorem common_self (l : Ln) (x y : Int) : common l ⟨x, y, x, y⟩ = onB x y l := by
  have z : ∀ a b, side ⟨x, y, x, y⟩ a b = 0 := fun a b => by
    unfold side Ln.dx Ln.dy
    show (x - x) * (b - y) - (y - y) * (a - x) = 0
    rw [Int.sub_self, Int.sub_self, Int.zero_mul, Int.zero_mul]
    rfl
  have r1 : reach l ⟨x, y, x, y⟩ = true := by
    unfold reach
    rw [z, z]
    decide
  have r2 : reach ⟨x, y, x, y⟩ l = decide (side l x y = 0) := by
    rw [Bool.eq_iff_iff]
    unfold reach
    rw [decide_eq_true_eq, decide_eq_true_eq]
    show side l x y * side l x y ≤ 0 ↔ _
    constructor
    · intro h3
      rcases Int.lt_trichotomy (side l x y) 0 with q | q | q
      · have := Int.mul_pos_of_neg_of_neg q q
        omega
      · exact q
      · have := Int.mul_pos q q
        omega
    · intro h0
      rw [h0]
      decide
  unfold common onB
  rw [r1, r2, Bool.true_and, Bool.eq_iff_iff, decide_eq_true_eq]
  unfold overX overY onI
  simp only [(minmaxI _ _).1, (minmaxI _ _).2, Bool.and_eq_true, decide_eq_true_eq]
  omega
def passedI (x y : Int) (l : Ln) : Bool := if decide (l.y0 < y) = decide (l.y1 < y) then false else decide (decide (0 < side l x y) = decide (0 < l.dy))
def atRay (x y a b : Int) : Bool := decide (b = y) && decide (x < a)
theorem on_height_I {l : Ln} {x y : Int} (hn : l.y0 ≠ l.y1) (h1 : min l.y0 l.y1 ≤ y) (h2 : y ≤ max l.y0 l.y1) (h0 : side l x y = 0) : onI l x y := by
  have e := onLine_pts l x y 0
  have g : onLine l.pts ⟨x, y, 0⟩ = true := by
    have c : left l.pts.1 l.pts.2 ⟨x, y, 0⟩ = 0 := by
      rw [left_cast, h0]
      rfl
    by_cases q : l.y0 < l.y1
    · exact on_by_height (a := l.pts.1) (b := l.pts.2) (v := ⟨x, y, 0⟩) (Rat.intCast_lt_intCast.mpr q) (Rat.intCast_le_intCast.mpr (by omega)) (Rat.intCast_le_intCast.mpr (by omega)) c
    · have s := on_by_height (a := l.pts.2) (b := l.pts.1) (v := ⟨x, y, 0⟩) (Rat.intCast_lt_intCast.mpr (show l.y1 < l.y0 by omega)) (Rat.intCast_le_intCast.mpr (show l.y1 ≤ y by omega)) (Rat.intCast_le_intCast.mpr (show y ≤ l.y0 by omega)) (by
        rw [left_swap, c]
        rfl)
      rw [on_swap] at s
      exact s
  rw [g] at e
  exact of_decide_eq_true e.symm
theorem mul_pos_l {a b : Int} (ha : 0 < a) : 0 < a * b ↔ 0 < b := ⟨fun h => by
  refine Int.not_le.mp fun q => ?_
  have := Int.mul_nonneg (Int.le_of_lt ha) (show 0 ≤ -b by omega)
  rw [Int.mul_neg] at this
  omega, fun h => Int.mul_pos ha h⟩
theorem mul_pos_n {a b : Int} (ha : a < 0) : 0 < a * b ↔ b < 0 := by
  have := mul_pos_l (a := -a) (b := -b) (by omega)
  rw [Int.neg_mul_neg] at this
  rw [this]
  omega
theorem side_y0 (l : Ln) (x : Int) : side l x l.y0 = l.dy * (l.x0 - x) := by
  unfold side
  rw [Int.sub_self, Int.mul_zero, show l.x0 - x = -(x - l.x0) by omega, Int.mul_neg]
  omega
theorem side_y1 (l : Ln) (x : Int) : side l x l.y1 = l.dy * (l.x1 - x) := by
  unfold side
  have e : l.dx * (l.y1 - l.y0) = l.dy * l.dx := by rw [Int.mul_comm]; rfl
  rw [e, ← Int.mul_sub]
  congr 1
  unfold Ln.dx
  omega
theorem on_start (l : Ln) : onI l l.x0 l.y0 := by
  refine ⟨?_, by omega, by omega⟩
  rw [side_y0, Int.sub_self, Int.mul_zero]
theorem on_end (l : Ln) : onI l l.x1 l.y1 := by
  refine ⟨?_, by omega, by omega⟩
  rw [side_y1, Int.sub_self, Int.mul_zero]
theorem edge_two {l : Ln} {x y : Int} (h : ¬ onI l x y) : (crossI x y l ^^ passedI x y l) = (atRay x y l.x0 l.y0 ^^ atRay x y l.x1 l.y1) := by
  unfold crossI passedI atRay
  by_cases a : l.y0 = y
  · by_cases b : l.y1 = y
    · rw [if_neg (by omega), if_neg (by omega), if_pos (by rw [a, b]), decide_eq_true a, decide_eq_true b, Bool.true_and, Bool.true_and]
      have n : ¬ (min l.x0 l.x1 ≤ x ∧ x ≤ max l.x0 l.x1) := fun q => h ⟨by
        unfold side Ln.dx Ln.dy
        rw [a, b, Int.sub_self, Int.zero_mul, Int.mul_zero]
        rfl, q, by omega⟩
      by_cases c : x < l.x0
      · rw [decide_eq_true c, decide_eq_true (show x < l.x1 by omega)]
        rfl
      · rw [decide_eq_false c, decide_eq_false (show ¬ x < l.x1 by omega)]
    · subst a
      have nx : x ≠ l.x0 := fun e => h (by rw [e]; exact on_start l)
      rw [decide_eq_true rfl, decide_eq_false b, Bool.true_and, Bool.false_and, Bool.xor_false, side_y0]
      by_cases c : l.y0 < l.y1
      · have dp : 0 < l.dy := by unfold Ln.dy; omega
        rw [if_pos (by omega), if_pos (by rw [decide_eq_false (show ¬ l.y0 < l.y0 by omega), decide_eq_false (show ¬ l.y1 < l.y0 by omega)]), Bool.xor_false, Bool.eq_iff_iff, decide_eq_true_eq, decide_eq_true_eq, mul_pos_l dp]
        omega
      · have dn : l.dy < 0 := by unfold Ln.dy; omega
        rw [if_neg (by omega), if_neg (by omega), if_neg (by rw [decide_eq_false (show ¬ l.y0 < l.y0 by omega), decide_eq_true (show l.y1 < l.y0 by omega)]; decide), Bool.false_xor, decide_eq_false (show ¬ 0 < l.dy by omega), Bool.eq_iff_iff, decide_eq_true_eq, decide_eq_true_eq, decide_eq_false_iff_not, mul_pos_n dn]
        omega
  · by_cases b : l.y1 = y
    · subst b
      have nx : x ≠ l.x1 := fun e => h (by rw [e]; exact on_end l)
      rw [decide_eq_true rfl, decide_eq_false a, Bool.true_and, Bool.false_and, Bool.false_xor, side_y1]
      by_cases c : l.y0 < l.y1
      · have dp : 0 < l.dy := by unfold Ln.dy; omega
        rw [if_neg (by omega), if_neg (by omega), if_neg (by rw [decide_eq_false (show ¬ l.y1 < l.y1 by omega), decide_eq_true c]; decide), Bool.false_xor, decide_eq_true dp, Bool.eq_iff_iff, decide_eq_true_eq, decide_eq_true_eq, decide_eq_true_eq, mul_pos_l dp]
        omega
      · have dn : l.dy < 0 := by unfold Ln.dy; omega
        rw [if_neg (by omega), if_pos (by omega), if_pos (by rw [decide_eq_false (show ¬ l.y1 < l.y1 by omega), decide_eq_false (show ¬ l.y0 < l.y1 by omega)]), Bool.xor_false, Bool.eq_iff_iff, decide_eq_true_eq, decide_eq_true_eq]
        have := mul_pos_n (a := l.dy) (b := -(l.x1 - x)) dn
        rw [Int.mul_neg] at this
        omega
    · rw [decide_eq_false a, decide_eq_false b, Bool.false_and, Bool.false_and, Bool.xor_false]
      by_cases c : l.y0 < y
      · by_cases d : l.y1 < y
        · rw [if_neg (by omega), if_neg (by omega), if_pos (by rw [decide_eq_true c, decide_eq_true d])]
          rfl
        · have dp : 0 < l.dy := by unfold Ln.dy; omega
          rw [if_pos (by omega), if_neg (by rw [decide_eq_true c, decide_eq_false d]; decide), decide_eq_true dp]
          cases decide (0 < side l x y) <;> rfl
      · by_cases d : l.y1 < y
        · have dn : l.dy < 0 := by unfold Ln.dy; omega
          have ns : side l x y ≠ 0 := fun e => h (on_height_I (by omega) (by omega) (by omega) e)
          rw [if_neg (by omega), if_pos (by omega), if_neg (by rw [decide_eq_false c, decide_eq_true d]; decide), decide_eq_false (show ¬ 0 < l.dy by omega)]
          by_cases q : 0 < side l x y
          · rw [decide_eq_true q, decide_eq_false (show ¬ side l x y < 0 by omega)]
            rfl
          · rw [decide_eq_false q, decide_eq_true (show side l x y < 0 by omega)]
            rfl
        · rw [if_neg (by omega), if_neg (by omega), if_pos (by rw [decide_eq_false c, decide_eq_false d])]
          rfl
/-- both ways to count: even or odd alike, for a point on no line -/
theorem parity_two {ns : List Int} {x y : Int} (h : ∀ l ∈ linesM ns, ¬ onI l x y) : ((linesM ns).filter (passedI x y)).length % 2 = ((linesM ns).filter (crossI x y)).length % 2 := by
  have e : (par2 (crossI x y) (linesM ns) ^^ par2 (passedI x y) (linesM ns)) = false := by
    rw [par2_xor, par2_congr (g := fun l => atRay x y l.x0 l.y0 ^^ atRay x y l.x1 l.y1) (fun l hl => edge_two (h l hl))]
    unfold linesM
    rw [par2_map]
    have r := par2_round (fun i => atRay x y (at_ ns (3 + 3 * (i % cnt ns))) (at_ ns (3 + 3 * (i % cnt ns) + 1))) (cnt ns)
    rw [Nat.mod_self, Nat.zero_mod, Bool.xor_self] at r
    rw [← r]
    refine par2_congr fun i hi => ?_
    rw [List.mem_range] at hi
    show (atRay x y (at_ ns (3 + 3 * i)) (at_ ns (3 + 3 * i + 1)) ^^ _) = _
    rw [Nat.mod_eq_of_lt hi]
    rfl
  rw [par2_count, par2_count] at e
  have a1 : ((linesM ns).filter (passedI x y)).length % 2 = 0 ∨ ((linesM ns).filter (passedI x y)).length % 2 = 1 := by omega
  have a2 : ((linesM ns).filter (crossI x y)).length % 2 = 0 ∨ ((linesM ns).filter (crossI x y)).length % 2 = 1 := by omega
  rcases a1 with q1 | q1 <;> rcases a2 with q2 | q2 <;> rw [q1, q2] at e ⊢ <;> cases e
def touchedI (ls : List Ln) (way : Ln) : Bool := ls.any fun l => common l way
def planI (ls : List Ln) (x y : Int) : Int := if touchedI ls ⟨x, y, x, y⟩ = true then 1 else if (ls.filter (passedI x y)).length % 2 = 1 then 2 else 0
def heightI (h z : Int) : Int := if z < 0 ∨ h < z then 0 else if z = 0 ∨ z = h then 1 else 2
def placeI (ls : List Ln) (h x y z : Int) : Int := minI (planI ls x y) (heightI h z)
theorem touched_self (ls : List Ln) (x y : Int) : touchedI ls ⟨x, y, x, y⟩ = ls.any (onB x y) := any_congr' fun l _ => common_self l x y
theorem none_on {ls : List Ln} {x y : Int} (h : ls.any (onB x y) = false) : ∀ l ∈ ls, ¬ onI l x y := fun l hl q => by
  rw [List.any_eq_false] at h
  exact h l hl (decide_eq_true q)
theorem plan_where (ns : List Int) (x y : Int) : planI (linesM ns) x y = if (linesM ns).any (onB x y) = true then 1 else if withinI (linesM ns) x y = true then 2 else 0 := by
  unfold planI
  rw [touched_self]
  by_cases c : (linesM ns).any (onB x y) = true
  · rw [if_pos c, if_pos c]
  · rw [if_neg c, if_neg c]
    have c' := Bool.eq_false_iff.mpr c
    unfold withinI
    rw [parity_two (none_on c'), c', Bool.not_false, Bool.true_and]
    by_cases q : ((linesM ns).filter (crossI x y)).length % 2 = 1
    · rw [if_pos q, if_pos (by rw [q]; rfl)]
    · rw [if_neg q, if_neg (by rw [beq_iff_eq]; exact q)]
theorem within_off {ls : List Ln} {x y : Int} (h : withinI ls x y = true) : ls.any (onB x y) = false := by
  unfold withinI at h
  rw [Bool.and_eq_true, Bool.not_eq_true'] at h
  exact h.1
theorem place_where (ns : List Int) (h x y z : Int) : placeI (linesM ns) h x y z = (whereI (linesM ns) h x y z : Int) := by
  unfold placeI
  rw [plan_where]
  unfold whereI surfI insideI heightI
  have wf : (linesM ns).any (onB x y) = true → withinI (linesM ns) x y = false := fun c => by
    cases e : withinI (linesM ns) x y with
    | false => rfl
    | true => rw [within_off e] at c; cases c
  generalize withinI (linesM ns) x y = b at wf
  generalize (linesM ns).any (onB x y) = a at wf
  by_cases h1 : z < 0 ∨ h < z
  · have d : decide (0 ≤ z) = false ∨ decide (z ≤ h) = false := by
      rcases h1 with q | q
      · exact .inl (decide_eq_false (by omega))
      · exact .inr (decide_eq_false (by omega))
    have d' : (decide (0 < z) && decide (z < h)) = false := by
      rw [Bool.and_eq_false_iff]
      rcases h1 with q | q
      · exact .inl (decide_eq_false (by omega))
      · exact .inr (decide_eq_false (by omega))
    rw [if_pos h1, d']
    rcases d with d | d <;> rw [d] <;> cases a <;> cases b <;> simp [minI]
  · rw [if_neg h1, decide_eq_true (show 0 ≤ z by omega), decide_eq_true (show z ≤ h by omega)]
    by_cases h2 : z = 0 ∨ z = h
    · have d' : (decide (0 < z) && decide (z < h)) = false := by
        rw [Bool.and_eq_false_iff]
        rcases h2 with q | q
        · exact .inl (decide_eq_false (by omega))
        · exact .inr (decide_eq_false (by omega))
      rw [if_pos h2, d']
      cases a <;> cases b <;> simp [minI]
    · rw [if_neg h2, decide_eq_true (show 0 < z by omega), decide_eq_true (show z < h by omega)]
      cases a with
      | false => cases b <;> simp [minI]
      | true => rw [wf rfl]; simp [minI]
theorem place_two (ns : List Int) (h x y z : Int) : placeI (linesM ns) h x y z = 2 ↔ insideI (linesM ns) h x y z = true := by
  rw [place_where]
  unfold whereI
  by_cases q : insideI (linesM ns) h x y z = true
  · rw [if_pos q]
    simp [q]
  · rw [if_neg q]
    by_cases r : surfI (linesM ns) h x y z = true
    · rw [if_pos r]
      simp [q]
    · rw [if_neg r]
      simp [q]
def whereP (x y z : Int) (ns : List Int) : List Int := match faultM ns with
  | some p => [-5, (p.1 : Int), (p.2 : Int)]
  | none => [placeI (linesM ns) (at_ ns 0) x y z]
theorem where_P (x y z : Int) (ns : List Int) : PyYqbeaa.where_ x y z ns = whereP x y z ns := by
  rw [where_eq]
  unfold whereM whereP
  cases faultM ns with
  | some p => rfl
  | none =>
    show [((whereI (linesM ns) (at_ ns 0) x y z : Nat) : Int)] = [placeI (linesM ns) (at_ ns 0) x y z]
    rw [place_where]
end Rm

set_option Elab.async false
set_option linter.all false
namespace Rm
open Eh
/-! ### far away nothing is within -/
theorem cross_right {a b v : Pt} (ha : a.x < v.x) (hb : b.x < v.x) : crosses v (a, b) = false := by
  have up : ∀ {a b : Pt}, a.y < b.y → a.x < v.x → b.x < v.x → crosses v (a, b) = false := fun {a b} h ha hb => by
    rw [cross_up h]
    by_cases c : a.y ≤ v.y ∧ v.y < b.y
    · rw [decide_eq_true c.1, decide_eq_true c.2, Bool.true_and, Bool.true_and, decide_eq_false_iff_not, Rat.not_lt]
      have E : 0 < b.y - a.y := by grind
      have w0 : 0 ≤ v.y - a.y := by grind
      have w1 : 0 ≤ b.y - v.y := by grind
      have m1 := Rat.mul_pos E (show 0 < v.x - a.x by grind)
      have m2 := Rat.mul_pos E (show 0 < v.x - b.x by grind)
      unfold left
      by_cases q : b.x - a.x ≤ 0
      · have m3 := Rat.mul_nonneg (show 0 ≤ -(b.x - a.x) by grind) w0
        grind
      · have m3 := Rat.mul_nonneg (show 0 ≤ b.x - a.x by grind) w1
        grind
    · rw [Bool.and_eq_false_iff, Bool.and_eq_false_iff, decide_eq_false_iff_not, decide_eq_false_iff_not]
      grind
  by_cases e : a.y = b.y
  · exact cross_flat e
  · rcases Rat.le_total (a := a.y) (b := b.y) with q | q
    · exact up (by grind) ha hb
    · rw [← cross_swap a b]
      exact up (by grind) hb ha
theorem cross_left {a b v : Pt} (ha : v.x < a.x) (hb : v.x < b.x) : crosses v (a, b) = (decide (a.y ≤ v.y) ^^ decide (b.y ≤ v.y)) := by
  have up : ∀ {a b : Pt}, a.y < b.y → v.x < a.x → v.x < b.x → crosses v (a, b) = (decide (a.y ≤ v.y) ^^ decide (b.y ≤ v.y)) := fun {a b} h ha hb => by
    rw [cross_up h]
    by_cases c : a.y ≤ v.y ∧ v.y < b.y
    · have L : 0 < left a b v := by
        have E : 0 < b.y - a.y := by grind
        have w0 : 0 ≤ v.y - a.y := by grind
        have w1 : 0 ≤ b.y - v.y := by grind
        have m1 := Rat.mul_pos E (show 0 < a.x - v.x by grind)
        have m2 := Rat.mul_pos E (show 0 < b.x - v.x by grind)
        unfold left
        by_cases q : 0 ≤ b.x - a.x
        · have m3 := Rat.mul_nonneg q w0
          grind
        · have m3 := Rat.mul_nonneg (show 0 ≤ -(b.x - a.x) by grind) w1
          grind
      rw [decide_eq_true c.1, decide_eq_true c.2, decide_eq_true L, decide_eq_false (show ¬ b.y ≤ v.y by grind)]
      rfl
    · by_cases d : a.y ≤ v.y
      · rw [decide_eq_true d, decide_eq_false (show ¬ v.y < b.y by grind), decide_eq_true (show b.y ≤ v.y by grind)]
        rfl
      · rw [decide_eq_false d, decide_eq_false (show ¬ b.y ≤ v.y by grind)]
        rfl
  by_cases e : a.y = b.y
  · rw [cross_flat e, e, Bool.xor_self]
  · rcases Rat.le_total (a := a.y) (b := b.y) with q | q
    · exact up (by grind) ha hb
    · rw [← cross_swap a b, Bool.xor_comm]
      exact up (by grind) hb ha
theorem cross_over {a b v : Pt} (ha : a.y ≤ v.y) (hb : b.y ≤ v.y) : crosses v (a, b) = false := by
  unfold crosses
  show (if a.y ≤ v.y ∧ v.y < b.y then decide (0 < left a b v) else if b.y ≤ v.y ∧ v.y < a.y then decide (left a b v < 0) else false) = false
  rw [if_neg (by grind), if_neg (by grind)]
theorem cross_under {a b v : Pt} (ha : v.y < a.y) (hb : v.y < b.y) : crosses v (a, b) = false := by
  unfold crosses
  show (if a.y ≤ v.y ∧ v.y < b.y then decide (0 < left a b v) else if b.y ≤ v.y ∧ v.y < a.y then decide (left a b v < 0) else false) = false
  rw [if_neg (by grind), if_neg (by grind)]
theorem bound_up (f : Nat → Rat) : ∀ n : Nat, ∃ M : Rat, ∀ i, i < n → f i < M
  | 0 => ⟨0, fun i h => absurd h (Nat.not_lt_zero _)⟩
  | n + 1 => by
    obtain ⟨M, h⟩ := bound_up f n
    refine ⟨max M (f n + 1), fun i hi => ?_⟩
    by_cases q : i = n
    · subst q
      have : f i < f i + 1 := by grind
      grind
    · have := h i (by omega)
      grind
theorem within_par {r : Room} {v : Pt} (h : r.within v = true) : par2 (crosses v) r.lines = true := by
  unfold Room.within at h
  rw [Bool.and_eq_true] at h
  rw [par2_count]
  exact h.2
theorem par_lines (r : Room) (g : Pt → Bool) : par2 (fun l : Pt × Pt => g l.1 ^^ g l.2) r.lines = false := by
  unfold Room.lines
  rw [par2_map]
  have := par2_round (fun i => g (r.corner i).at_) r.n
  rw [corner_round, Bool.xor_self] at this
  exact this
theorem par2_false {α : Type} : ∀ l : List α, par2 (fun _ => false) l = false
  | [] => rfl
  | a :: l => by
    show (false ^^ par2 (fun _ => false) l) = false
    rw [par2_false l]
    rfl
theorem line_corner {r : Room} {l : Pt × Pt} (h0 : 0 < r.n) (hl : l ∈ r.lines) : ∃ i j, i < r.n ∧ j < r.n ∧ l = ((r.corner i).at_, (r.corner j).at_) := by
  obtain ⟨i, hi, rfl⟩ := mem_lines.mp hl
  refine ⟨i, (i + 1) % r.n, hi, Nat.mod_lt _ h0, ?_⟩
  unfold Room.line Room.corner
  rw [Nat.mod_mod]
theorem not_within_far {r : Room} (h0 : 0 < r.n) {v : Pt} (h : (∀ i, i < r.n → (r.corner i).at_.x < v.x) ∨ (∀ i, i < r.n → v.x < (r.corner i).at_.x) ∨ (∀ i, i < r.n → (r.corner i).at_.y ≤ v.y) ∨ (∀ i, i < r.n → v.y < (r.corner i).at_.y)) : r.within v = false := by
  cases e : r.within v with
  | false => rfl
  | true =>
    exfalso
    have q := within_par e
    rcases h with h | h | h | h
    · rw [par2_congr (g := fun _ => false) (fun l hl => by obtain ⟨i, j, hi, hj, rfl⟩ := line_corner h0 hl; exact cross_right (h i hi) (h j hj)), par2_false] at q
      cases q
    · rw [par2_congr (g := fun l => decide (l.1.y ≤ v.y) ^^ decide (l.2.y ≤ v.y)) (fun l hl => by obtain ⟨i, j, hi, hj, rfl⟩ := line_corner h0 hl; exact cross_left (h i hi) (h j hj)), par_lines r (fun c => decide (c.y ≤ v.y))] at q
      cases q
    · rw [par2_congr (g := fun _ => false) (fun l hl => by obtain ⟨i, j, hi, hj, rfl⟩ := line_corner h0 hl; exact cross_over (h i hi) (h j hj)), par2_false] at q
      cases q
    · rw [par2_congr (g := fun _ => false) (fun l hl => by obtain ⟨i, j, hi, hj, rfl⟩ := line_corner h0 hl; exact cross_under (h i hi) (h j hj)), par2_false] at q
      cases q
theorem reach_far {a d M : Rat} (hd : 0 < d) : ∃ s : Rat, 0 ≤ s ∧ M ≤ a + s * d := by
  by_cases q : M ≤ a
  · exact ⟨0, by decide, by grind⟩
  · refine ⟨(M - a) / d, ?_, ?_⟩
    · exact Rat.not_lt.mp fun z => by
        have e : (M - a) / d * d = M - a := Rat.div_mul_cancel (by grind)
        have := r_neg_pos z hd
        grind
    · rw [Rat.div_mul_cancel (by grind)]
      grind
theorem goes_out {r : Room} (h0 : 0 < r.n) {p q : Pt} (hd : p.x ≠ q.x ∨ p.y ≠ q.y) : ∃ s : Rat, 0 ≤ s ∧ r.within (onWay p q s) = false := by
  obtain ⟨M1, m1⟩ := bound_up (fun i => (r.corner i).at_.x) r.n
  obtain ⟨M2, m2⟩ := bound_up (fun i => -(r.corner i).at_.x) r.n
  obtain ⟨M3, m3⟩ := bound_up (fun i => (r.corner i).at_.y) r.n
  obtain ⟨M4, m4⟩ := bound_up (fun i => -(r.corner i).at_.y) r.n
  by_cases c1 : p.x < q.x
  · obtain ⟨s, s0, e⟩ := reach_far (a := p.x) (d := q.x - p.x) (M := M1) (by grind)
    refine ⟨s, s0, not_within_far h0 (.inl fun i hi => ?_)⟩
    have := m1 i hi
    show (r.corner i).at_.x < p.x + s * (q.x - p.x)
    grind
  · by_cases c2 : q.x < p.x
    · obtain ⟨s, s0, e⟩ := reach_far (a := -p.x) (d := -(q.x - p.x)) (M := M2) (by grind)
      refine ⟨s, s0, not_within_far h0 (.inr (.inl fun i hi => ?_))⟩
      have := m2 i hi
      show p.x + s * (q.x - p.x) < (r.corner i).at_.x
      grind
    · by_cases c3 : p.y < q.y
      · obtain ⟨s, s0, e⟩ := reach_far (a := p.y) (d := q.y - p.y) (M := M3) (by grind)
        refine ⟨s, s0, not_within_far h0 (.inr (.inr (.inl fun i hi => ?_)))⟩
        have := m3 i hi
        show (r.corner i).at_.y ≤ p.y + s * (q.y - p.y)
        grind
      · obtain ⟨s, s0, e⟩ := reach_far (a := -p.y) (d := -(q.y - p.y)) (M := M4) (by grind)
        refine ⟨s, s0, not_within_far h0 (.inr (.inr (.inr fun i hi => ?_)))⟩
        have := m4 i hi
        show p.y + s * (q.y - p.y) < (r.corner i).at_.y
        grind
theorem side_met {r : Room} (G : Good r) {p q : Pt} (hp : r.within p = true) (hd : p.x ≠ q.x ∨ p.y ≠ q.y) : ∃ w t, w < r.n ∧ r.meetsAt p q w = some t := by
  have n0 : 0 < r.n := by have := G.n3; omega
  obtain ⟨s, s0, e⟩ := goes_out n0 hd
  refine Classical.byContradiction fun no => ?_
  have := within_before G hp (T := s + 1) (fun w t hw h => absurd ⟨w, t, hw, h⟩ no) s0 (by grind)
  rw [this] at e
  cases e
theorem meetsAt_flat {r : Room} {p q : Pt} {w : Nat} (hw : ¬ w < r.n) : r.meetsAt p q w = if q.z = p.z then none else
    (if 0 < ((if w = r.n then 0 else (r.h : Rat)) - p.z) / (q.z - p.z) then some (((if w = r.n then 0 else (r.h : Rat)) - p.z) / (q.z - p.z)) else none) := by
  unfold Room.meetsAt
  rw [if_neg hw]
theorem div_pos_pp {a b : Rat} (ha : 0 < a) (hb : 0 < b) : 0 < a / b := by
  have e : a / b * b = a := Rat.div_mul_cancel (by grind)
  generalize a / b = t at e
  refine Rat.not_le.mp fun y => ?_
  have := Rat.mul_nonneg (show 0 ≤ -t by grind) (Rat.le_of_lt hb)
  grind
theorem div_pos_nn {a b : Rat} (ha : a < 0) (hb : b < 0) : 0 < a / b := by
  have e : a / b * b = a := Rat.div_mul_cancel (by grind)
  generalize a / b = t at e
  refine Rat.not_le.mp fun y => ?_
  have := Rat.mul_nonneg (show 0 ≤ -t by grind) (show 0 ≤ -b by grind)
  grind
/-- a ray from inside always comes to an end -/
theorem first_some {r : Room} (G : Good r) {p q : Pt} (hp : r.inside p = true) (hd : p ≠ q) : ∃ T, firstAt r p q = some T := by
  cases e : firstAt r p q with
  | some T => exact ⟨T, rfl⟩
  | none =>
    exfalso
    rw [firstAt_none] at e
    unfold Room.inside at hp
    rw [Bool.and_eq_true, Bool.and_eq_true, decide_eq_true_eq, decide_eq_true_eq] at hp
    obtain ⟨hw, z0, z1⟩ := hp
    by_cases c : p.x ≠ q.x ∨ p.y ≠ q.y
    · obtain ⟨w, t, hw, ht⟩ := side_met G hw c
      rw [e w (by unfold Room.walls; omega)] at ht
      cases ht
    · have cz : q.z ≠ p.z := fun z => hd (by
        obtain ⟨a1, a2, a3⟩ := p
        obtain ⟨b1, b2, b3⟩ := q
        have : a1 = b1 := Classical.byContradiction fun y => c (.inl y)
        have : a2 = b2 := Classical.byContradiction fun y => c (.inr y)
        have : b3 = a3 := z
        subst_vars
        rfl)
      by_cases d : q.z < p.z
      · have k := e r.n (by unfold Room.walls; omega)
        rw [meetsAt_flat (by omega), if_neg cz, if_pos rfl, if_pos (div_pos_nn (by grind) (by grind))] at k
        cases k
      · have k := e (r.n + 1) (by unfold Room.walls; omega)
        have ne : ¬ (r.n + 1 = r.n) := by omega
        have g : 0 < ((r.h : Rat) - p.z) / (q.z - p.z) := div_pos_pp (by grind) (by grind)
        rw [meetsAt_flat (by omega), if_neg cz, if_neg ne, if_pos g] at k
        cases k
end Rm

set_option Elab.async false
set_option linter.all false
namespace Rm
open Eh
/-! ### the place that a ray comes to: in one wall alone, or on an edge -/
def lnOf (r : Room) (i : Nat) : Ln := ⟨(r.corner i).x, (r.corner i).y, (r.corner (i + 1)).x, (r.corner (i + 1)).y⟩
theorem lnOf_pts (r : Room) (i : Nat) : r.line i = (lnOf r i).pts := rfl
theorem good_dir {r : Room} (G : Good r) {i : Nat} (hi : i < r.n) : hasDir (lnOf r i) = true := by
  have := G.dir i hi
  rw [lnOf_pts, dirOk_pts] at this
  exact this
theorem far_lines {r : Room} (G : Good r) {i j : Nat} (hi : i < r.n) (hj : j < r.n) (hn : neighbours r.n i j = false) {v : Pt} (h1 : onLine (r.line i) v = true) (h2 : onLine (r.line j) v = true) : False := by
  have m := G.free i j hi hj hn
  rw [lnOf_pts, lnOf_pts, meet_pts (good_dir G hi) (good_dir G hj)] at m
  rw [lnOf_pts] at h1 h2
  have := (common_iff (lnOf r i) (lnOf r j)).mpr ⟨v, h1, h2⟩
  rw [this] at m
  cases m
theorem end2_of {l : Pt × Pt} {v : Pt} (hx : v.x = l.2.x) (hy : v.y = l.2.y) : isEnd l v = true := by
  unfold isEnd
  rw [Bool.or_eq_true, Bool.and_eq_true, Bool.and_eq_true]
  exact .inr ⟨beq_iff_eq.mpr hx, beq_iff_eq.mpr hy⟩
theorem end1_of {l : Pt × Pt} {v : Pt} (hx : v.x = l.1.x) (hy : v.y = l.1.y) : isEnd l v = true := by
  unfold isEnd
  rw [Bool.or_eq_true, Bool.and_eq_true, Bool.and_eq_true]
  exact .inl ⟨beq_iff_eq.mpr hx, beq_iff_eq.mpr hy⟩
theorem next_lines {r : Room} (G : Good r) {i : Nat} (hi : i < r.n) {v : Pt} (h1 : onLine (r.line i) v = true) (h2 : onLine (r.line (i + 1)) v = true) : isEnd (r.line i) v = true ∧ isEnd (r.line (i + 1)) v = true := by
  have b := G.bend i hi
  unfold alongside at b
  rw [beq_eq_false_iff_ne] at b
  obtain ⟨u, u0, u1, ux, uy⟩ := on_param h1
  obtain ⟨t, t0, t1, tx, ty⟩ := on_param h2
  rw [← line_ends] at tx ty b
  have key : v.x = (r.line i).2.x ∧ v.y = (r.line i).2.y := by
    generalize r.line i = k at *
    generalize (r.line (i + 1)).2 = c at *
    have e : ((k.2.x - k.1.x) * (c.y - k.2.y) - (k.2.y - k.1.y) * (c.x - k.2.x)) * (1 - u) = 0 := by grind
    have e1 := mul_cancel0 b e
    have e2 : u = 1 := by grind
    subst e2
    exact ⟨by grind, by grind⟩
  exact ⟨end2_of key.1 key.2, end1_of (by rw [← line_ends]; exact key.1) (by rw [← line_ends]; exact key.2)⟩
theorem two_lines {r : Room} (G : Good r) {i j : Nat} (hi : i < r.n) (hj : j < r.n) (ne : i ≠ j) {v : Pt} (h1 : onLine (r.line i) v = true) (h2 : onLine (r.line j) v = true) : isEnd (r.line i) v = true ∧ isEnd (r.line j) v = true := by
  cases e : neighbours r.n i j with
  | false => exact absurd (far_lines G hi hj e h1 h2) id
  | true =>
    unfold neighbours at e
    rw [Bool.or_eq_true, Bool.or_eq_true, beq_iff_eq, beq_iff_eq, beq_iff_eq] at e
    rcases e with e | e | e
    · exact absurd e ne
    · rw [← e, line_mod] at h2
      have := next_lines G hi h1 h2
      rw [← e, line_mod]
      exact this
    · rw [← e, line_mod] at h1
      have := next_lines G hj h2 h1
      rw [← e, line_mod]
      exact ⟨this.2, this.1⟩
theorem inWall_side {r : Room} {w : Nat} {v : Pt} (hw : w < r.n) : r.inWall w v = true ↔ (onLine (r.line w) v = true ∧ isEnd (r.line w) v = false ∧ 0 < v.z ∧ v.z < r.h) := by
  unfold Room.inWall
  rw [if_pos hw, Bool.and_eq_true, Bool.and_eq_true, Bool.and_eq_true, decide_eq_true_eq, decide_eq_true_eq, Bool.not_eq_true']
theorem inWall_flat {r : Room} {w : Nat} {v : Pt} (hw : ¬ w < r.n) : r.inWall w v = true ↔ (r.within v = true ∧ v.z = if w = r.n then 0 else (r.h : Rat)) := by
  unfold Room.inWall
  rw [if_neg hw, Bool.and_eq_true]
  by_cases c : w = r.n
  · rw [if_pos c, if_pos c, beq_iff_eq]
  · rw [if_neg c, if_neg c, beq_iff_eq]
theorem h_pos {r : Room} (G : Good r) : (0 : Rat) < (r.h : Rat) := Rat.intCast_pos.mpr (by have := G.h1; omega)
theorem in_one_wall {r : Room} (G : Good r) {w w' : Nat} {v : Pt} (hw : w < r.walls) (hw' : w' < r.walls) (h : r.inWall w v = true) (h' : r.inWall w' v = true) : w = w' := by
  have hp := h_pos G
  unfold Room.walls at hw hw'
  by_cases a : w < r.n
  · by_cases b : w' < r.n
    · refine Classical.byContradiction fun ne => ?_
      rw [inWall_side a] at h
      rw [inWall_side b] at h'
      have := (two_lines G a b ne h.1 h'.1).1
      rw [this] at h
      exact absurd h.2.1 (by decide)
    · rw [inWall_side a] at h
      rw [inWall_flat b] at h'
      have := on_within h'.1 (r.line w) (mem_lines.mpr ⟨w, a, rfl⟩)
      rw [this] at h
      exact absurd h.1 (by decide)
  · by_cases b : w' < r.n
    · rw [inWall_side b] at h'
      rw [inWall_flat a] at h
      have := on_within h.1 (r.line w') (mem_lines.mpr ⟨w', b, rfl⟩)
      rw [this] at h'
      exact absurd h'.1 (by decide)
    · rw [inWall_flat a] at h
      rw [inWall_flat b] at h'
      by_cases c : w = r.n
      · by_cases d : w' = r.n
        · rw [c, d]
        · rw [if_pos c] at h
          rw [if_neg d] at h'
          have := h.2.symm.trans h'.2
          grind
      · by_cases d : w' = r.n
        · rw [if_neg c] at h
          rw [if_pos d] at h'
          have := h.2.symm.trans h'.2
          grind
        · omega
theorem ahead_some {r : Room} (G : Good r) {p q : Pt} {T : Rat} (hT : firstAt r p q = some T) {w : Nat} (hw : w < r.walls) (h : r.inWall w (onWay p q T) = true) : r.ahead p q = some (w, onWay p q T) := by
  rw [ahead_first, hT]
  show ((List.range r.walls).find? fun (w : Nat) => r.inWall w (onWay p q T)).map _ = _
  cases e : (List.range r.walls).find? fun (w : Nat) => r.inWall w (onWay p q T) with
  | none =>
    rw [List.find?_eq_none] at e
    exact absurd h (e w (List.mem_range.mpr hw))
  | some k =>
    have k1 := List.find?_some e
    have k2 := List.mem_range.mp (List.mem_of_find?_eq_some e)
    rw [in_one_wall G k2 hw k1 h]
    rfl
theorem ahead_none {r : Room} {p q : Pt} {T : Rat} (hT : firstAt r p q = some T) (h : ∀ w, w < r.walls → r.inWall w (onWay p q T) = false) : r.ahead p q = none := by
  rw [ahead_first, hT]
  show ((List.range r.walls).find? fun (w : Nat) => r.inWall w (onWay p q T)).map _ = _
  have e : (List.range r.walls).find? (fun (w : Nat) => r.inWall w (onWay p q T)) = none := List.find?_eq_none.mpr fun w hw => by
    rw [h w (List.mem_range.mp hw)]
    decide
  rw [e]
  rfl
/-- at the first place the way is within the lines or on one -/
theorem first_within {r : Room} (G : Good r) {p q : Pt} {T : Rat} (hp : r.within p = true) (hT : firstAt r p q = some T) (T0 : 0 ≤ T) (no : ∀ i, i < r.n → onLine (r.line i) (onWay p q T) = false) : r.within (onWay p q T) = true := by
  rw [firstAt_some] at hT
  refine within_at G hp T0 (fun w t hw ht => hT.2 w t (by unfold Room.walls; omega) ht) fun l hl => ?_
  obtain ⟨i, hi, rfl⟩ := mem_lines.mp hl
  exact no i hi
theorem meetsAt_pos {r : Room} {p q : Pt} {w : Nat} {t : Rat} (h : r.meetsAt p q w = some t) : 0 < t := by
  by_cases hw : w < r.n
  · exact (of_meetsAt hw h).1
  · rw [meetsAt_flat hw] at h
    by_cases c : q.z = p.z
    · rw [if_pos c] at h
      cases h
    · rw [if_neg c] at h
      generalize ((if w = r.n then (0 : Rat) else (r.h : Rat)) - p.z) / (q.z - p.z) = a at h
      by_cases d : 0 < a
      · rw [if_pos d] at h
        rw [← Option.some.inj h]
        exact d
      · rw [if_neg d] at h
        cases h
theorem first_pos {r : Room} {p q : Pt} {T : Rat} (hT : firstAt r p q = some T) : 0 < T := by
  rw [firstAt_some] at hT
  obtain ⟨w, _, h⟩ := hT.1
  exact meetsAt_pos h
/-- what a ray comes to, told by the place alone -/
theorem ahead_side {r : Room} (G : Good r) {p q : Pt} {T : Rat} (hT : firstAt r p q = some T) {w : Nat} (hw : w < r.n) (h1 : onLine (r.line w) (onWay p q T) = true) (h2 : isEnd (r.line w) (onWay p q T) = false) (h3 : 0 < (onWay p q T).z) (h4 : (onWay p q T).z < r.h) : r.ahead p q = some (w, onWay p q T) :=
  ahead_some G hT (by unfold Room.walls; omega) ((inWall_side hw).mpr ⟨h1, h2, h3, h4⟩)
theorem ahead_floor {r : Room} (G : Good r) {p q : Pt} {T : Rat} (hp : r.within p = true) (hT : firstAt r p q = some T) (no : ∀ i, i < r.n → onLine (r.line i) (onWay p q T) = false) (hz : (onWay p q T).z = 0) : r.ahead p q = some (r.n, onWay p q T) :=
  ahead_some G hT (by unfold Room.walls; omega) ((inWall_flat (by omega)).mpr ⟨first_within G hp hT (Rat.le_of_lt (first_pos hT)) no, by rw [if_pos rfl]; exact hz⟩)
theorem ahead_ceiling {r : Room} (G : Good r) {p q : Pt} {T : Rat} (hp : r.within p = true) (hT : firstAt r p q = some T) (no : ∀ i, i < r.n → onLine (r.line i) (onWay p q T) = false) (hz : (onWay p q T).z = r.h) : r.ahead p q = some (r.n + 1, onWay p q T) :=
  ahead_some G hT (by unfold Room.walls; omega) ((inWall_flat (by omega)).mpr ⟨first_within G hp hT (Rat.le_of_lt (first_pos hT)) no, by rw [if_neg (by omega)]; exact hz⟩)
/-- on an edge: on a line, and at its end, or at the floor's or the ceiling's height -/
theorem ahead_edge {r : Room} (G : Good r) {p q : Pt} {T : Rat} (hT : firstAt r p q = some T) {w : Nat} (hw : w < r.n) (h1 : onLine (r.line w) (onWay p q T) = true) (h2 : isEnd (r.line w) (onWay p q T) = true ∨ ¬ (0 < (onWay p q T).z ∧ (onWay p q T).z < r.h)) : r.ahead p q = none := by
  refine ahead_none hT fun k hk => ?_
  cases e : r.inWall k (onWay p q T) with
  | false => rfl
  | true =>
    exfalso
    by_cases a : k < r.n
    · rw [inWall_side a] at e
      rcases h2 with q2 | q2
      · by_cases c : k = w
        · rw [c, q2] at e
          exact absurd e.2.1 (by decide)
        · rw [(two_lines G a hw c e.1 h1).1] at e
          exact absurd e.2.1 (by decide)
      · exact q2 e.2.2
    · rw [inWall_flat a] at e
      rw [on_within e.1 (r.line w) (mem_lines.mpr ⟨w, hw, rfl⟩)] at h1
      cases h1
/-- .. up to the first place the height stays in the room -/
theorem first_height {r : Room} {p q : Pt} {T : Rat} (hp : 0 < p.z ∧ p.z < r.h) (hT : firstAt r p q = some T) : 0 ≤ (onWay p q T).z ∧ (onWay p q T).z ≤ r.h := by
  have T0 := first_pos hT
  rw [firstAt_some] at hT
  show 0 ≤ p.z + T * (q.z - p.z) ∧ p.z + T * (q.z - p.z) ≤ r.h
  by_cases c : q.z = p.z
  · rw [c, Rat.sub_self, Rat.mul_zero]
    grind
  · by_cases d : q.z < p.z
    · have g : 0 < (0 - p.z) / (q.z - p.z) := div_pos_nn (by grind) (by grind)
      have k := hT.2 r.n ((0 - p.z) / (q.z - p.z)) (by unfold Room.walls; omega) (by rw [meetsAt_flat (by omega), if_neg c, if_pos rfl, if_pos g])
      have e : (0 - p.z) / (q.z - p.z) * (q.z - p.z) = 0 - p.z := Rat.div_mul_cancel (by grind)
      generalize (0 - p.z) / (q.z - p.z) = t at *
      have m1 := Rat.mul_nonneg (show 0 ≤ t - T by grind) (show 0 ≤ p.z - q.z by grind)
      have m2 := Rat.mul_pos T0 (show 0 < p.z - q.z by grind)
      grind
    · have g : 0 < ((r.h : Rat) - p.z) / (q.z - p.z) := div_pos_pp (by grind) (by grind)
      have ne : ¬ (r.n + 1 = r.n) := by omega
      have k := hT.2 (r.n + 1) (((r.h : Rat) - p.z) / (q.z - p.z)) (by unfold Room.walls; omega) (by rw [meetsAt_flat (by omega), if_neg c, if_neg ne, if_pos g])
      have e : ((r.h : Rat) - p.z) / (q.z - p.z) * (q.z - p.z) = (r.h : Rat) - p.z := Rat.div_mul_cancel (by grind)
      generalize ((r.h : Rat) - p.z) / (q.z - p.z) = t at *
      have m1 := Rat.mul_nonneg (show 0 ≤ t - T by grind) (show 0 ≤ q.z - p.z by grind)
      have m2 := Rat.mul_pos T0 (show 0 < q.z - p.z by grind)
      grind
/-- a line that the first place is on: it is met there, or it runs along the way and a neighbour is met there -/
theorem first_on {r : Room} (G : Good r) {p q : Pt} {T : Rat} (hp : r.within p = true) (hT : firstAt r p q = some T) {i : Nat} (hi : i < r.n) (h : onLine (r.line i) (onWay p q T) = true) : ∃ j, j < r.n ∧ r.meetsAt p q j = some T := by
  have T0 := first_pos hT
  rw [firstAt_some] at hT
  by_cases hD : cross2 p q (r.line i) = 0
  · obtain ⟨j, s, hj, s0, s1, e⟩ := parallel_hit G hi T0 (on_within hp _ (mem_lines.mpr ⟨i, hi, rfl⟩)) hD h
    have := hT.2 j s (by unfold Room.walls; omega) e
    have : s = T := by grind
    rw [this] at e
    exact ⟨j, hj, e⟩
  · exact ⟨i, hi, meetsAt_of hi T0 hD h⟩
end Rm

set_option Elab.async false
set_option linter.all false
namespace Rm
open Eh
/-! ### whole numbers over one number -/
theorem frac_add_mul (a n d D : Int) (hD : D ≠ 0) : (a : Rat) + ((n : Rat) / (D : Rat)) * (d : Rat) = ((a * D + n * d : Int) : Rat) / (D : Rat) := by
  have h : (D : Rat) ≠ 0 := fun z => hD (Rat.intCast_inj.mp z)
  rw [Rat.intCast_add, Rat.intCast_mul, Rat.intCast_mul]
  have e : (n : Rat) / (D : Rat) * (D : Rat) = (n : Rat) := Rat.div_mul_cancel h
  have e2 : ((a : Rat) * (D : Rat) + (n : Rat) * (d : Rat)) / (D : Rat) * (D : Rat) = (a : Rat) * (D : Rat) + (n : Rat) * (d : Rat) := Rat.div_mul_cancel h
  generalize (n : Rat) / (D : Rat) = t at *
  generalize ((a : Rat) * (D : Rat) + (n : Rat) * (d : Rat)) / (D : Rat) = s at *
  have : (D : Rat) * ((a : Rat) + t * (d : Rat) - s) = 0 := by grind
  have := mul_cancel0 h this
  grind
theorem way_frac (px py pz qx qy qz n D : Int) (hD : D ≠ 0) : onWay ⟨px, py, pz⟩ ⟨qx, qy, qz⟩ ((n : Rat) / (D : Rat)) =
    ⟨((px * D + n * (qx - px) : Int) : Rat) / (D : Rat), ((py * D + n * (qy - py) : Int) : Rat) / (D : Rat), ((pz * D + n * (qz - pz) : Int) : Rat) / (D : Rat)⟩ := by
  unfold onWay
  show (⟨(px : Rat) + ((n : Rat) / (D : Rat)) * ((qx : Rat) - (px : Rat)), (py : Rat) + ((n : Rat) / (D : Rat)) * ((qy : Rat) - (py : Rat)), (pz : Rat) + ((n : Rat) / (D : Rat)) * ((qz : Rat) - (pz : Rat))⟩ : Pt) = _
  rw [← Rat.intCast_sub, ← Rat.intCast_sub, ← Rat.intCast_sub, frac_add_mul _ _ _ _ hD, frac_add_mul _ _ _ _ hD, frac_add_mul _ _ _ _ hD]
/-- one fraction is at most another -/
theorem frac_le2 {n d m e : Int} (hd : 0 < d) (he : 0 < e) : (n : Rat) / (d : Rat) ≤ (m : Rat) / (e : Rat) ↔ n * e ≤ m * d := by
  have hd' := pos_cast hd
  have he' := pos_cast he
  rw [← Rat.intCast_le_intCast (a := n * e), Rat.intCast_mul, Rat.intCast_mul]
  have e1 : (n : Rat) / (d : Rat) * (d : Rat) = (n : Rat) := Rat.div_mul_cancel (by grind)
  have e2 : (m : Rat) / (e : Rat) * (e : Rat) = (m : Rat) := Rat.div_mul_cancel (by grind)
  generalize (n : Rat) / (d : Rat) = t at *
  generalize (m : Rat) / (e : Rat) = s at *
  have de := Rat.mul_pos hd' he'
  have id1 : (m : Rat) * (d : Rat) - (n : Rat) * (e : Rat) = (s - t) * ((d : Rat) * (e : Rat)) := by
    rw [← e1, ← e2]
    grind
  constructor
  · intro h
    have := Rat.mul_nonneg (show 0 ≤ s - t by grind) (Rat.le_of_lt de)
    grind
  · intro h
    refine Rat.not_lt.mp fun q => ?_
    have := Rat.mul_pos (show 0 < t - s by grind) de
    grind
theorem frac_eq2 {n d m e : Int} (hd : 0 < d) (he : 0 < e) : (n : Rat) / (d : Rat) = (m : Rat) / (e : Rat) ↔ n * e = m * d := by
  have h1 := frac_le2 (n := n) (m := m) hd he
  have h2 := frac_le2 (n := m) (m := n) he hd
  constructor
  · intro h
    have a := h1.mp (by rw [h]; exact Rat.le_refl)
    have b := h2.mp (by rw [h]; exact Rat.le_refl)
    omega
  · intro h
    have a := h1.mpr (by omega)
    have b := h2.mpr (by omega)
    grind
theorem frac_pos {n d : Int} (hd : 0 < d) : 0 < (n : Rat) / (d : Rat) ↔ 0 < n := by
  have := lt_frac (n := n) (c := 0) hd
  rw [Int.zero_mul] at this
  exact this
theorem frac_nonneg {n d : Int} (hd : 0 < d) : 0 ≤ (n : Rat) / (d : Rat) ↔ 0 ≤ n := by
  have := le_frac (n := n) (c := 0) hd
  rw [Int.zero_mul] at this
  exact this
theorem frac_le1 {n d : Int} (hd : 0 < d) : (n : Rat) / (d : Rat) ≤ 1 ↔ n ≤ d := by
  have := frac_le (n := n) (c := 1) hd
  rw [Int.one_mul] at this
  exact this
/-- where the way from p to q meets a line, in whole numbers: how far the ends are beside it -/
def dirX (dx dy : Int) (l : Ln) : Int := dx * l.dy - dy * l.dx
def offX (px py dx dy : Int) (l : Ln) : Int := (l.x0 - px) * dy - (l.y0 - py) * dx
theorem side_two (l : Ln) (px py qx qy : Int) : side l px py - side l qx qy = dirX (qx - px) (qy - py) l := by
  have z : side l px py - side l qx qy - dirX (qx - px) (qy - py) l = 0 := by
    unfold side dirX
    generalize l.dx = a
    generalize l.dy = b
    grind
  omega
theorem meetsAt_I {r : Room} {w : Nat} (hw : w < r.n) (px py pz qx qy qz : Int) : r.meetsAt ⟨px, py, pz⟩ ⟨qx, qy, qz⟩ w =
    if dirX (qx - px) (qy - py) (lnOf r w) = 0 then none else
    if 0 < ((side (lnOf r w) px py : Int) : Rat) / ((dirX (qx - px) (qy - py) (lnOf r w) : Int) : Rat) ∧ 0 ≤ ((offX px py (qx - px) (qy - py) (lnOf r w) : Int) : Rat) / ((dirX (qx - px) (qy - py) (lnOf r w) : Int) : Rat) ∧
      ((offX px py (qx - px) (qy - py) (lnOf r w) : Int) : Rat) / ((dirX (qx - px) (qy - py) (lnOf r w) : Int) : Rat) ≤ 1
    then some (((side (lnOf r w) px py : Int) : Rat) / ((dirX (qx - px) (qy - py) (lnOf r w) : Int) : Rat)) else none := by
  rw [meetsAt_unf hw, lnOf_pts]
  generalize lnOf r w = l
  have e1 : cross2 ⟨px, py, pz⟩ ⟨qx, qy, qz⟩ l.pts = ((dirX (qx - px) (qy - py) l : Int) : Rat) := by
    unfold cross2 dirX Ln.dx Ln.dy Ln.pts
    simp only [Rat.intCast_sub, Rat.intCast_mul]
  have e2 : (l.pts.1.x - (⟨px, py, pz⟩ : Pt).x) * (l.pts.2.y - l.pts.1.y) - (l.pts.1.y - (⟨px, py, pz⟩ : Pt).y) * (l.pts.2.x - l.pts.1.x) = ((side l px py : Int) : Rat) := by
    unfold side Ln.dx Ln.dy Ln.pts
    simp only [Rat.intCast_sub, Rat.intCast_mul]
    grind
  have e3 : (l.pts.1.x - (⟨px, py, pz⟩ : Pt).x) * ((⟨qx, qy, qz⟩ : Pt).y - (⟨px, py, pz⟩ : Pt).y) - (l.pts.1.y - (⟨px, py, pz⟩ : Pt).y) * ((⟨qx, qy, qz⟩ : Pt).x - (⟨px, py, pz⟩ : Pt).x) = ((offX px py (qx - px) (qy - py) l : Int) : Rat) := by
    unfold offX Ln.pts
    simp only [Rat.intCast_sub, Rat.intCast_mul]
  rw [e1, e2, e3]
  by_cases c : dirX (qx - px) (qy - py) l = 0
  · rw [if_pos c, if_pos (by rw [c]; rfl)]
  · have c' : ¬ ((dirX (qx - px) (qy - py) l : Int) : Rat) = 0 := fun z => c (Rat.intCast_inj.mp z)
    rw [if_neg c, if_neg c']
/-- a point over W is on a line -/
def onW (W X Y : Int) (l : Ln) : Prop := l.dx * (Y - W * l.y0) - l.dy * (X - W * l.x0) = 0 ∧ (W * min l.x0 l.x1 ≤ X ∧ X ≤ W * max l.x0 l.x1) ∧ (W * min l.y0 l.y1 ≤ Y ∧ Y ≤ W * max l.y0 l.y1)
instance (W X Y : Int) (l : Ln) : Decidable (onW W X Y l) := by unfold onW; infer_instance
theorem onLine_W (l : Ln) {W : Int} (hW : 0 < W) (X Y : Int) (z : Rat) : onLine l.pts ⟨(X : Rat) / (W : Rat), (Y : Rat) / (W : Rat), z⟩ = decide (onW W X Y l) := by
  have hW' := pos_cast hW
  have hx : ((X : Rat) / (W : Rat)) * (W : Rat) = (X : Rat) := Rat.div_mul_cancel (by grind)
  have hy : ((Y : Rat) / (W : Rat)) * (W : Rat) = (Y : Rat) := Rat.div_mul_cancel (by grind)
  have el : left l.pts.1 l.pts.2 ⟨(X : Rat) / (W : Rat), (Y : Rat) / (W : Rat), z⟩ * (W : Rat) = ((l.dx * (Y - W * l.y0) - l.dy * (X - W * l.x0) : Int) : Rat) := by
    simp only [Rat.intCast_sub, Rat.intCast_mul]
    rw [← hx, ← hy]
    generalize (X : Rat) / (W : Rat) = a
    generalize (Y : Rat) / (W : Rat) = b
    unfold left Ln.pts Ln.dx Ln.dy
    simp only [Rat.intCast_sub]
    grind
  have e0 : left l.pts.1 l.pts.2 ⟨(X : Rat) / (W : Rat), (Y : Rat) / (W : Rat), z⟩ = 0 ↔ l.dx * (Y - W * l.y0) - l.dy * (X - W * l.x0) = 0 := by
    rw [← Rat.intCast_inj (b := 0), ← el]
    constructor
    · intro h
      rw [h, Rat.zero_mul]
      rfl
    · intro h
      rw [Rat.mul_comm] at h
      exact mul_cancel0 (by grind) h
  have bt : ∀ a b V : Int, between (a : Rat) (b : Rat) ((V : Rat) / (W : Rat)) = true ↔ W * min a b ≤ V ∧ V ≤ W * max a b := fun a b V => by
    unfold between
    rw [Bool.and_eq_true, decide_eq_true_eq, decide_eq_true_eq, min_cast, max_cast, le_frac hW, frac_le hW, Int.mul_comm, Int.mul_comm (max a b)]
  rw [Bool.eq_iff_iff, decide_eq_true_eq]
  unfold onLine onW
  rw [Bool.and_eq_true, Bool.and_eq_true, beq_iff_eq, e0]
  show _ ∧ between (l.x0 : Rat) (l.x1 : Rat) ((X : Rat) / (W : Rat)) = true ∧ between (l.y0 : Rat) (l.y1 : Rat) ((Y : Rat) / (W : Rat)) = true ↔ _
  rw [bt, bt]
def endW (W X Y : Int) (l : Ln) : Prop := (X = W * l.x0 ∧ Y = W * l.y0) ∨ (X = W * l.x1 ∧ Y = W * l.y1)
instance (W X Y : Int) (l : Ln) : Decidable (endW W X Y l) := by unfold endW; infer_instance
theorem frac_int {X W a : Int} (hW : 0 < W) : (X : Rat) / (W : Rat) = (a : Rat) ↔ X = W * a := by
  have h1 := frac_le (n := X) (c := a) hW
  have h2 := le_frac (n := X) (c := a) hW
  rw [Int.mul_comm] at h1 h2
  constructor
  · intro h
    have x1 := h1.mp (by rw [h]; exact Rat.le_refl)
    have x2 := h2.mp (by rw [h]; exact Rat.le_refl)
    omega
  · intro h
    have x1 := h1.mpr (by omega)
    have x2 := h2.mpr (by omega)
    grind
theorem isEnd_W (l : Ln) {W : Int} (hW : 0 < W) (X Y : Int) (z : Rat) : isEnd l.pts ⟨(X : Rat) / (W : Rat), (Y : Rat) / (W : Rat), z⟩ = decide (endW W X Y l) := by
  rw [Bool.eq_iff_iff, decide_eq_true_eq]
  unfold isEnd endW
  show (((X : Rat) / (W : Rat) == (l.x0 : Rat) && (Y : Rat) / (W : Rat) == (l.y0 : Rat)) || ((X : Rat) / (W : Rat) == (l.x1 : Rat) && (Y : Rat) / (W : Rat) == (l.y1 : Rat))) = true ↔ _
  rw [Bool.or_eq_true, Bool.and_eq_true, Bool.and_eq_true, beq_iff_eq, beq_iff_eq, beq_iff_eq, beq_iff_eq, frac_int hW, frac_int hW, frac_int hW, frac_int hW]
/-- told over any number: divided by what all four have in common -/
theorem told_W {X Y Z W g : Int} (hW : 0 < W) (hg : 0 < g) (gx : g ∣ X) (gy : g ∣ Y) (gz : g ∣ Z) (gw : g ∣ W) (hk : ∀ k : Nat, (k : Int) ∣ X → (k : Int) ∣ Y → (k : Int) ∣ Z → (k : Int) ∣ W → (k : Int) ∣ g) :
    told ⟨(X : Rat) / (W : Rat), (Y : Rat) / (W : Rat), (Z : Rat) / (W : Rat)⟩ = [X / g, Y / g, Z / g, W / g] := by
  obtain ⟨x, rfl⟩ := gx
  obtain ⟨y, rfl⟩ := gy
  obtain ⟨z, rfl⟩ := gz
  obtain ⟨w, rfl⟩ := gw
  have w0 : 0 < w := by
    refine Int.not_le.mp fun q => ?_
    have := Int.mul_nonneg (Int.le_of_lt hg) (show 0 ≤ -w by omega)
    rw [Int.mul_neg] at this
    omega
  have gc : ∀ a : Int, ((g * a : Int) : Rat) / ((g * w : Int) : Rat) = (a : Rat) / ((w.toNat : Nat) : Rat) := fun a => by
    have ew : ((w.toNat : Nat) : Rat) = (w : Rat) := by
      have : ((w.toNat : Nat) : Int) = w := by omega
      rw [← this]
      rfl
    rw [ew, frac_eq2 hW w0, Int.mul_assoc, Int.mul_left_comm]
  rw [gc, gc, gc, Int.mul_ediv_cancel_left _ (by omega), Int.mul_ediv_cancel_left _ (by omega), Int.mul_ediv_cancel_left _ (by omega), Int.mul_ediv_cancel_left _ (by omega)]
  rw [told_of (X := x) (Y := y) (Z := z) (W := w.toNat) (by omega) ?_]
  · rw [show ((w.toNat : Nat) : Int) = w by omega]
  · intro k kx ky kz kw
    have kw' : (k : Int) ∣ w := by
      have := Int.ofNat_dvd.mpr kw
      rw [show ((w.toNat : Nat) : Int) = w by omega] at this
      exact this
    have big : (((k * g.toNat : Nat)) : Int) = g * (k : Int) := by
      rw [Int.natCast_mul, show ((g.toNat : Nat) : Int) = g by omega, Int.mul_comm]
    have := hk (k * g.toNat) (by rw [big]; exact Int.mul_dvd_mul_left g kx) (by rw [big]; exact Int.mul_dvd_mul_left g ky) (by rw [big]; exact Int.mul_dvd_mul_left g kz) (by rw [big]; exact Int.mul_dvd_mul_left g kw')
    rw [big] at this
    obtain ⟨c, hc⟩ := this
    have h1 : (k : Int) * c = 1 := by
      have : g * ((k : Int) * c) = g * 1 := by rw [← Int.mul_assoc, ← hc, Int.mul_one]
      exact Int.eq_of_mul_eq_mul_left (by omega) this
    have hd : (k : Int) ∣ 1 := ⟨c, h1.symm⟩
    have : k ∣ 1 := Int.ofNat_dvd.mp hd
    exact Nat.dvd_one.mp this
end Rm

set_option Elab.async false
set_option linter.all false
namespace Rm
open Eh
/-! ### what a ray meets, in whole numbers -/
/-- how far along the way a line is met: a number over a number, both above 0 -/
def hitI (px py dx dy : Int) (l : Ln) : Option (Int × Int) :=
  if dirX dx dy l = 0 then none
  else if dirX dx dy l < 0 then (if 0 < -side l px py ∧ 0 ≤ -offX px py dx dy l ∧ -offX px py dx dy l ≤ -dirX dx dy l then some (-side l px py, -dirX dx dy l) else none)
  else if 0 < side l px py ∧ 0 ≤ offX px py dx dy l ∧ offX px py dx dy l ≤ dirX dx dy l then some (side l px py, dirX dx dy l) else none
/-- .. the floor or the ceiling, at a height -/
def hitF (to pz dz : Int) : Option (Int × Int) :=
  if dz = 0 then none
  else if dz < 0 then (if 0 < -(to - pz) then some (-(to - pz), -dz) else none)
  else if 0 < to - pz then some (to - pz, dz) else none
def quot (a : Int × Int) : Rat := (a.1 : Rat) / (a.2 : Rat)
theorem quot_neg (n d : Int) : (n : Rat) / (d : Rat) = ((-n : Int) : Rat) / ((-d : Int) : Rat) := frac_neg n d
theorem meetsAt_hit {r : Room} {w : Nat} (hw : w < r.n) (px py pz qx qy qz : Int) : r.meetsAt ⟨px, py, pz⟩ ⟨qx, qy, qz⟩ w = (hitI px py (qx - px) (qy - py) (lnOf r w)).map quot := by
  rw [meetsAt_I hw]
  unfold hitI
  generalize side (lnOf r w) px py = s
  generalize offX px py (qx - px) (qy - py) (lnOf r w) = u
  generalize dirX (qx - px) (qy - py) (lnOf r w) = d
  by_cases c : d = 0
  · rw [if_pos c, if_pos c]
    rfl
  · rw [if_neg c, if_neg c]
    have key : ∀ s u d : Int, 0 < d → (if 0 < (s : Rat) / (d : Rat) ∧ 0 ≤ (u : Rat) / (d : Rat) ∧ (u : Rat) / (d : Rat) ≤ 1 then some ((s : Rat) / (d : Rat)) else none) = (if 0 < s ∧ 0 ≤ u ∧ u ≤ d then some (s, d) else none).map quot := fun s u d hd => by
      by_cases q : 0 < s ∧ 0 ≤ u ∧ u ≤ d
      · rw [if_pos q, if_pos ⟨(frac_pos hd).mpr q.1, (frac_nonneg hd).mpr q.2.1, (frac_le1 hd).mpr q.2.2⟩]
        rfl
      · rw [if_neg q, if_neg (fun z => q ⟨(frac_pos hd).mp z.1, (frac_nonneg hd).mp z.2.1, (frac_le1 hd).mp z.2.2⟩)]
        rfl
    by_cases e : d < 0
    · rw [if_pos e, quot_neg s d, quot_neg u d]
      exact key (-s) (-u) (-d) (by omega)
    · rw [if_neg e]
      exact key s u d (by omega)
theorem meetsAt_hitF {r : Room} {w : Nat} (hw : ¬ w < r.n) (px py pz qx qy qz : Int) : r.meetsAt ⟨px, py, pz⟩ ⟨qx, qy, qz⟩ w = (hitF (if w = r.n then 0 else r.h) pz (qz - pz)).map quot := by
  rw [meetsAt_flat hw]
  have e0 : (if w = r.n then (0 : Rat) else (r.h : Rat)) = ((if w = r.n then (0 : Int) else r.h : Int) : Rat) := by
    by_cases c : w = r.n
    · rw [if_pos c, if_pos c]
      rfl
    · rw [if_neg c, if_neg c]
  show (if (qz : Rat) = (pz : Rat) then none else (if 0 < ((if w = r.n then (0 : Rat) else (r.h : Rat)) - (pz : Rat)) / ((qz : Rat) - (pz : Rat)) then some (((if w = r.n then (0 : Rat) else (r.h : Rat)) - (pz : Rat)) / ((qz : Rat) - (pz : Rat))) else none)) = _
  rw [e0, ← Rat.intCast_sub, ← Rat.intCast_sub]
  unfold hitF
  generalize (if w = r.n then (0 : Int) else r.h) = to
  have key : ∀ s d : Int, 0 < d → (if 0 < (s : Rat) / (d : Rat) then some ((s : Rat) / (d : Rat)) else none) = (if 0 < s then some (s, d) else none).map quot := fun s d hd => by
    by_cases q : 0 < s
    · rw [if_pos q, if_pos ((frac_pos hd).mpr q)]
      rfl
    · rw [if_neg q, if_neg (fun z => q ((frac_pos hd).mp z))]
      rfl
  by_cases c : qz = pz
  · rw [if_pos (by rw [c]), if_pos (by omega)]
    rfl
  · rw [if_neg (fun z => c (Rat.intCast_inj.mp z)), if_neg (show ¬ qz - pz = 0 by omega)]
    by_cases e : qz - pz < 0
    · rw [if_pos e, quot_neg (to - pz) (qz - pz)]
      exact key _ _ (by omega)
    · rw [if_neg e]
      exact key _ _ (by omega)
theorem hitI_pos {px py dx dy : Int} {l : Ln} {a : Int × Int} (h : hitI px py dx dy l = some a) : 0 < a.1 ∧ 0 < a.2 := by
  unfold hitI at h
  by_cases c : dirX dx dy l = 0
  · rw [if_pos c] at h
    cases h
  · rw [if_neg c] at h
    by_cases e : dirX dx dy l < 0
    · rw [if_pos e] at h
      split at h
      · rename_i q
        rw [← Option.some.inj h]
        exact ⟨q.1, by show 0 < -dirX dx dy l; omega⟩
      · cases h
    · rw [if_neg e] at h
      split at h
      · rename_i q
        rw [← Option.some.inj h]
        exact ⟨q.1, by show 0 < dirX dx dy l; omega⟩
      · cases h
theorem hitF_pos {to pz dz : Int} {a : Int × Int} (h : hitF to pz dz = some a) : 0 < a.1 ∧ 0 < a.2 := by
  unfold hitF at h
  by_cases c : dz = 0
  · rw [if_pos c] at h
    cases h
  · rw [if_neg c] at h
    by_cases e : dz < 0
    · rw [if_pos e] at h
      split at h
      · rename_i q
        rw [← Option.some.inj h]
        exact ⟨q, by show 0 < -dz; omega⟩
      · cases h
    · rw [if_neg e] at h
      split at h
      · rename_i q
        rw [← Option.some.inj h]
        exact ⟨q, by show 0 < dz; omega⟩
      · cases h
/-- a wall's hit, by its number -/
def hitW (ls : List Ln) (h px py pz qx qy qz : Int) (w : Nat) : Option (Int × Int) :=
  if w < ls.length then hitI px py (qx - px) (qy - py) (lnAt ls w) else hitF (if w = ls.length then 0 else h) pz (qz - pz)
theorem hitW_pos {ls : List Ln} {h px py pz qx qy qz : Int} {w : Nat} {a : Int × Int} (e : hitW ls h px py pz qx qy qz w = some a) : 0 < a.1 ∧ 0 < a.2 := by
  unfold hitW at e
  by_cases c : w < ls.length
  · rw [if_pos c] at e
    exact hitI_pos e
  · rw [if_neg c] at e
    exact hitF_pos e
/-- the first of them -/
structure IsFirst (ls : List Ln) (h px py pz qx qy qz N D : Int) : Prop where
  n0 : 0 < N
  d0 : 0 < D
  ex : ∃ w a, w < ls.length + 2 ∧ hitW ls h px py pz qx qy qz w = some a ∧ a.1 * D = N * a.2
  all : ∀ w a, w < ls.length + 2 → hitW ls h px py pz qx qy qz w = some a → N * a.2 ≤ a.1 * D
section
variable {ns : List Int}
theorem lines_len (ns : List Int) : (linesM ns).length = cnt ns := by unfold linesM; rw [List.length_map, List.length_range]
theorem lnOf_M (hn : 0 < cnt ns) {w : Nat} (hw : w < cnt ns) : lnOf (roomM ns) w = lnAt (linesM ns) w := by
  have R := roomM_is (ns := ns) hn
  have e1 := lnOf_pts (roomM ns) w
  rw [R.line hn hw] at e1
  have e2 : lnAt (linesM ns) w = wallOf ns (cnt ns) w := lnAt_map _ _ _ hw
  rw [e2]
  generalize wallOf ns (cnt ns) w = a at e1
  generalize lnOf (roomM ns) w = b at e1
  unfold Ln.pts at e1
  injection e1 with e3 e4
  injection e3 with x0 y0 _
  injection e4 with x1 y1 _
  obtain ⟨a1, a2, a3, a4⟩ := a
  obtain ⟨b1, b2, b3, b4⟩ := b
  have := Rat.intCast_inj.mp x0
  have := Rat.intCast_inj.mp y0
  have := Rat.intCast_inj.mp x1
  have := Rat.intCast_inj.mp y1
  simp only at *
  subst_vars
  rfl
theorem meetsAt_M (hn : 0 < cnt ns) {w : Nat} (px py pz qx qy qz : Int) : (roomM ns).meetsAt ⟨px, py, pz⟩ ⟨qx, qy, qz⟩ w = (hitW (linesM ns) (at_ ns 0) px py pz qx qy qz w).map quot := by
  have R := roomM_is (ns := ns) hn
  unfold hitW
  rw [lines_len]
  by_cases c : w < cnt ns
  · rw [if_pos c, meetsAt_hit (by rw [R.n]; exact c), lnOf_M hn c]
  · rw [if_neg c, meetsAt_hitF (by rw [R.n]; exact c), R.n, R.h]
theorem first_M (hn : 0 < cnt ns) {px py pz qx qy qz N D : Int} (F : IsFirst (linesM ns) (at_ ns 0) px py pz qx qy qz N D) : firstAt (roomM ns) ⟨px, py, pz⟩ ⟨qx, qy, qz⟩ = some ((N : Rat) / (D : Rat)) := by
  have R := roomM_is (ns := ns) hn
  rw [firstAt_some]
  have wl : (roomM ns).walls = cnt ns + 2 := by unfold Room.walls; rw [R.n]
  obtain ⟨w, a, hw, e, ea⟩ := F.ex
  rw [lines_len] at hw
  refine ⟨⟨w, by rw [wl]; exact hw, ?_⟩, fun w t hw ht => ?_⟩
  · rw [meetsAt_M hn, e]
    show some (quot a) = _
    have p := hitW_pos e
    unfold quot
    rw [(frac_eq2 p.2 F.d0).mpr ea]
  · rw [meetsAt_M hn] at ht
    cases e : hitW (linesM ns) (at_ ns 0) px py pz qx qy qz w with
    | none =>
      rw [e] at ht
      cases ht
    | some a =>
      rw [e] at ht
      have : quot a = t := Option.some.inj ht
      rw [← this]
      have p := hitW_pos e
      exact (frac_le2 F.d0 p.2).mpr (F.all w a (by rw [lines_len]; rw [wl] at hw; exact hw) e)
theorem good_M (h : faultM ns = none) : Good (roomM ns) := by
  have e := roomOf_eq ns
  rw [h] at e
  have h3 := faultM_whole h
  refine good_of ?_
  -- the room that the list is has no fault
  unfold roomOf at e
  split at e
  · split at e
    · cases e
    · split at e
      · cases e
      · rename_i q
        injection e with e
        rw [← e]
        exact q
  · cases e
/-- a place -/
abbrev plX (p q N D : Int) : Int := p * D + N * (q - p)
theorem meets_unf (px py pz qx qy qz : Int) (h : faultM ns = none) : PyYqbeaa.meets px py pz qx qy qz ns = RaNeutral.told (if (roomM ns).inside ⟨px, py, pz⟩ = false ∨ (⟨px, py, pz⟩ : Whole) = ⟨qx, qy, qz⟩ then .refused 3 else match (roomM ns).ahead ⟨px, py, pz⟩ ⟨qx, qy, qz⟩ with
    | none => .refused 4
    | some (w, a) => .nums ((w : Int) :: told a)) := by
  show RaNeutral.told (Ra.ofRoom ns fun (r : Room) => if r.inside ⟨px, py, pz⟩ = false ∨ (⟨px, py, pz⟩ : Whole) = ⟨qx, qy, qz⟩ then .refused 3 else match r.ahead ⟨px, py, pz⟩ ⟨qx, qy, qz⟩ with
    | none => .refused 4
    | some (w, a) => .nums ((w : Int) :: told a)) = _
  unfold Ra.ofRoom
  rw [roomOf_eq, h]
theorem meets_fault (px py pz qx qy qz : Int) {p : Nat × Nat} (h : faultM ns = some p) : PyYqbeaa.meets px py pz qx qy qz ns = [-5, (p.1 : Int), (p.2 : Int)] := by
  show RaNeutral.told (Ra.ofRoom ns fun (r : Room) => if r.inside ⟨px, py, pz⟩ = false ∨ (⟨px, py, pz⟩ : Whole) = ⟨qx, qy, qz⟩ then .refused 3 else match r.ahead ⟨px, py, pz⟩ ⟨qx, qy, qz⟩ with
    | none => .refused 4
    | some (w, a) => .nums ((w : Int) :: told a)) = _
  unfold Ra.ofRoom
  rw [roomOf_eq, h]
  rfl
theorem meets_out {px py pz qx qy qz : Int} (h : faultM ns = none) (hp : insideI (linesM ns) (at_ ns 0) px py pz = false ∨ (px = qx ∧ py = qy ∧ pz = qz)) : PyYqbeaa.meets px py pz qx qy qz ns = [-3] := by
  have hn : 0 < cnt ns := by have := faultM_whole h; omega
  have R := roomM_is (ns := ns) hn
  rw [meets_unf _ _ _ _ _ _ h, inside_I R hn, if_pos]
  · rfl
  · rcases hp with q | ⟨a, b, c⟩
    · exact .inl q
    · subst a b c
      exact .inr rfl
theorem meets_in {px py pz qx qy qz : Int} (h : faultM ns = none) (hp : insideI (linesM ns) (at_ ns 0) px py pz = true) (hq : ¬ (px = qx ∧ py = qy ∧ pz = qz)) : PyYqbeaa.meets px py pz qx qy qz ns = RaNeutral.told (match (roomM ns).ahead ⟨px, py, pz⟩ ⟨qx, qy, qz⟩ with
    | none => .refused 4
    | some (w, a) => .nums ((w : Int) :: told a)) := by
  have hn : 0 < cnt ns := by have := faultM_whole h; omega
  have R := roomM_is (ns := ns) hn
  rw [meets_unf _ _ _ _ _ _ h, inside_I R hn, if_neg]
  rintro (z | z)
  · rw [hp] at z
    cases z
  · injection z with a b c
    exact hq ⟨a, b, c⟩
end
end Rm

set_option Elab.async false
set_option linter.all false
namespace Rm
open Eh
section
variable {ns : List Int} {px py pz qx qy qz N D : Int}
/-- no whole number above 1 divides all four once g is taken out -/
structure Gcd4 (X Y Z W g : Int) : Prop where
  g0 : 0 < g
  gx : g ∣ X
  gy : g ∣ Y
  gz : g ∣ Z
  gw : g ∣ W
  all : ∀ k : Nat, (k : Int) ∣ X → (k : Int) ∣ Y → (k : Int) ∣ Z → (k : Int) ∣ W → (k : Int) ∣ g
theorem told_nums (w : Nat) (l : List Int) : RaNeutral.told (.nums ((w : Int) :: l)) = 0 :: (w : Int) :: l := rfl
theorem meets_some (h : faultM ns = none) (hp : insideI (linesM ns) (at_ ns 0) px py pz = true) (hq : ¬ (px = qx ∧ py = qy ∧ pz = qz)) (d0 : 0 < D) {w : Nat} (e : (roomM ns).ahead ⟨px, py, pz⟩ ⟨qx, qy, qz⟩ = some (w, onWay ⟨px, py, pz⟩ ⟨qx, qy, qz⟩ ((N : Rat) / (D : Rat)))) {g : Int} (G : Gcd4 (plX px qx N D) (plX py qy N D) (plX pz qz N D) D g) :
    PyYqbeaa.meets px py pz qx qy qz ns = [0, (w : Int), plX px qx N D / g, plX py qy N D / g, plX pz qz N D / g, D / g] := by
  rw [meets_in h hp hq, e]
  show RaNeutral.told (.nums ((w : Int) :: told (onWay ⟨px, py, pz⟩ ⟨qx, qy, qz⟩ ((N : Rat) / (D : Rat))))) = _
  rw [told_nums, way_frac _ _ _ _ _ _ _ _ (by omega), told_W d0 G.g0 G.gx G.gy G.gz G.gw G.all]
theorem meets_none (h : faultM ns = none) (hp : insideI (linesM ns) (at_ ns 0) px py pz = true) (hq : ¬ (px = qx ∧ py = qy ∧ pz = qz)) (e : (roomM ns).ahead ⟨px, py, pz⟩ ⟨qx, qy, qz⟩ = none) : PyYqbeaa.meets px py pz qx qy qz ns = [-4] := by
  rw [meets_in h hp hq, e]
  rfl
theorem within_pt (h : faultM ns = none) (hp : insideI (linesM ns) (at_ ns 0) px py pz = true) : (roomM ns).within ⟨px, py, pz⟩ = true := by
  have hn : 0 < cnt ns := by have := faultM_whole h; omega
  rw [within_I (roomM_is (ns := ns) hn) hn]
  unfold insideI at hp
  rw [Bool.and_eq_true] at hp
  exact hp.1
theorem on_M (h : faultM ns = none) (d0 : 0 < D) {w : Nat} (hw : w < cnt ns) : onLine ((roomM ns).line w) (onWay ⟨px, py, pz⟩ ⟨qx, qy, qz⟩ ((N : Rat) / (D : Rat))) = decide (onW D (plX px qx N D) (plX py qy N D) (lnAt (linesM ns) w)) := by
  have hn : 0 < cnt ns := by have := faultM_whole h; omega
  rw [lnOf_pts, lnOf_M hn hw, way_frac _ _ _ _ _ _ _ _ (by omega), onLine_W _ d0]
theorem end_M (h : faultM ns = none) (d0 : 0 < D) {w : Nat} (hw : w < cnt ns) : isEnd ((roomM ns).line w) (onWay ⟨px, py, pz⟩ ⟨qx, qy, qz⟩ ((N : Rat) / (D : Rat))) = decide (endW D (plX px qx N D) (plX py qy N D) (lnAt (linesM ns) w)) := by
  have hn : 0 < cnt ns := by have := faultM_whole h; omega
  rw [lnOf_pts, lnOf_M hn hw, way_frac _ _ _ _ _ _ _ _ (by omega), isEnd_W _ d0]
theorem z_M (d0 : 0 < D) : (onWay ⟨px, py, pz⟩ ⟨qx, qy, qz⟩ ((N : Rat) / (D : Rat))).z = ((plX pz qz N D : Int) : Rat) / (D : Rat) := by
  rw [way_frac _ _ _ _ _ _ _ _ (by omega)]
theorem h_M (h : faultM ns = none) : ((roomM ns).h : Rat) = ((at_ ns 0 : Int) : Rat) := by
  have hn : 0 < cnt ns := by have := faultM_whole h; omega
  rw [(roomM_is (ns := ns) hn).h]
theorem n_M (h : faultM ns = none) : (roomM ns).n = cnt ns := by
  have hn : 0 < cnt ns := by have := faultM_whole h; omega
  exact (roomM_is (ns := ns) hn).n
theorem meets_side (h : faultM ns = none) (hp : insideI (linesM ns) (at_ ns 0) px py pz = true) (hq : ¬ (px = qx ∧ py = qy ∧ pz = qz)) (F : IsFirst (linesM ns) (at_ ns 0) px py pz qx qy qz N D) {w : Nat} (hw : w < cnt ns)
    (h1 : onW D (plX px qx N D) (plX py qy N D) (lnAt (linesM ns) w)) (h2 : ¬ endW D (plX px qx N D) (plX py qy N D) (lnAt (linesM ns) w)) (h3 : 0 < plX pz qz N D) (h4 : plX pz qz N D < at_ ns 0 * D) {g : Int} (G : Gcd4 (plX px qx N D) (plX py qy N D) (plX pz qz N D) D g) :
    PyYqbeaa.meets px py pz qx qy qz ns = [0, (w : Int), plX px qx N D / g, plX py qy N D / g, plX pz qz N D / g, D / g] := by
  have hn : 0 < cnt ns := by have := faultM_whole h; omega
  refine meets_some h hp hq F.d0 (ahead_side (good_M h) (first_M hn F) (by rw [n_M h]; exact hw) ?_ ?_ ?_ ?_) G
  · rw [on_M h F.d0 hw]
    exact decide_eq_true h1
  · rw [end_M h F.d0 hw]
    exact decide_eq_false h2
  · rw [z_M F.d0]
    exact (frac_pos F.d0).mpr h3
  · rw [z_M F.d0, h_M h]
    exact (frac_lt F.d0).mpr h4
theorem none_M (h : faultM ns = none) (d0 : 0 < D) (no : ∀ w, w < cnt ns → ¬ onW D (plX px qx N D) (plX py qy N D) (lnAt (linesM ns) w)) : ∀ i, i < (roomM ns).n → onLine ((roomM ns).line i) (onWay ⟨px, py, pz⟩ ⟨qx, qy, qz⟩ ((N : Rat) / (D : Rat))) = false := fun i hi => by
  rw [n_M h] at hi
  rw [on_M h d0 hi]
  exact decide_eq_false (no i hi)
theorem meets_floor (h : faultM ns = none) (hp : insideI (linesM ns) (at_ ns 0) px py pz = true) (hq : ¬ (px = qx ∧ py = qy ∧ pz = qz)) (F : IsFirst (linesM ns) (at_ ns 0) px py pz qx qy qz N D)
    (no : ∀ w, w < cnt ns → ¬ onW D (plX px qx N D) (plX py qy N D) (lnAt (linesM ns) w)) (hz : plX pz qz N D = 0) {g : Int} (G : Gcd4 (plX px qx N D) (plX py qy N D) (plX pz qz N D) D g) :
    PyYqbeaa.meets px py pz qx qy qz ns = [0, (cnt ns : Int), plX px qx N D / g, plX py qy N D / g, plX pz qz N D / g, D / g] := by
  have hn : 0 < cnt ns := by have := faultM_whole h; omega
  refine meets_some h hp hq F.d0 ?_ G
  have := ahead_floor (good_M h) (within_pt h hp) (first_M hn F) (none_M h F.d0 no) (by
    rw [z_M F.d0, hz]
    exact (frac_int (a := 0) F.d0).mpr (by rw [Int.mul_zero]))
  rw [n_M h] at this
  exact this
theorem meets_ceiling (h : faultM ns = none) (hp : insideI (linesM ns) (at_ ns 0) px py pz = true) (hq : ¬ (px = qx ∧ py = qy ∧ pz = qz)) (F : IsFirst (linesM ns) (at_ ns 0) px py pz qx qy qz N D)
    (no : ∀ w, w < cnt ns → ¬ onW D (plX px qx N D) (plX py qy N D) (lnAt (linesM ns) w)) (hz : plX pz qz N D = at_ ns 0 * D) {g : Int} (G : Gcd4 (plX px qx N D) (plX py qy N D) (plX pz qz N D) D g) :
    PyYqbeaa.meets px py pz qx qy qz ns = [0, ((cnt ns + 1 : Nat) : Int), plX px qx N D / g, plX py qy N D / g, plX pz qz N D / g, D / g] := by
  have hn : 0 < cnt ns := by have := faultM_whole h; omega
  refine meets_some h hp hq F.d0 ?_ G
  have := ahead_ceiling (good_M h) (within_pt h hp) (first_M hn F) (none_M h F.d0 no) (by
    rw [z_M F.d0, hz, h_M h]
    exact (frac_int F.d0).mpr (Int.mul_comm _ _))
  rw [n_M h] at this
  exact this
theorem meets_edge (h : faultM ns = none) (hp : insideI (linesM ns) (at_ ns 0) px py pz = true) (hq : ¬ (px = qx ∧ py = qy ∧ pz = qz)) (F : IsFirst (linesM ns) (at_ ns 0) px py pz qx qy qz N D) {w : Nat} (hw : w < cnt ns)
    (h1 : onW D (plX px qx N D) (plX py qy N D) (lnAt (linesM ns) w)) (h2 : endW D (plX px qx N D) (plX py qy N D) (lnAt (linesM ns) w) ∨ ¬ (0 < plX pz qz N D ∧ plX pz qz N D < at_ ns 0 * D)) : PyYqbeaa.meets px py pz qx qy qz ns = [-4] := by
  have hn : 0 < cnt ns := by have := faultM_whole h; omega
  refine meets_none h hp hq (ahead_edge (good_M h) (first_M hn F) (w := w) (by rw [n_M h]; exact hw) ?_ ?_)
  · rw [on_M h F.d0 hw]
    exact decide_eq_true h1
  · rcases h2 with q | q
    · left
      rw [end_M h F.d0 hw]
      exact decide_eq_true q
    · right
      rw [z_M F.d0, h_M h, frac_pos F.d0, frac_lt F.d0]
      exact q
/-- there is a first -/
theorem first_ex (h : faultM ns = none) (hp : insideI (linesM ns) (at_ ns 0) px py pz = true) (hq : ¬ (px = qx ∧ py = qy ∧ pz = qz)) : ∃ w a, w < cnt ns + 2 ∧ hitW (linesM ns) (at_ ns 0) px py pz qx qy qz w = some a := by
  have hn : 0 < cnt ns := by have := faultM_whole h; omega
  have R := roomM_is (ns := ns) hn
  obtain ⟨T, e⟩ := first_some (r := roomM ns) (good_M h) (p := ⟨px, py, pz⟩) (q := ⟨qx, qy, qz⟩) (by rw [inside_I R hn]; exact hp) (fun z => by
    injection z with a b c
    exact hq ⟨Rat.intCast_inj.mp a, Rat.intCast_inj.mp b, Rat.intCast_inj.mp c⟩)
  rw [firstAt_some] at e
  obtain ⟨w, hw, ew⟩ := e.1
  rw [meetsAt_M hn] at ew
  unfold Room.walls at hw
  rw [n_M h] at hw
  cases e2 : hitW (linesM ns) (at_ ns 0) px py pz qx qy qz w with
  | none =>
    rw [e2] at ew
    cases ew
  | some a => exact ⟨w, a, hw, e2⟩
/-- at the first place the height is in the room, and a line is met there or the floor or the ceiling is reached -/
theorem first_z (h : faultM ns = none) (hp : insideI (linesM ns) (at_ ns 0) px py pz = true) (F : IsFirst (linesM ns) (at_ ns 0) px py pz qx qy qz N D) : 0 ≤ plX pz qz N D ∧ plX pz qz N D ≤ at_ ns 0 * D := by
  have hn : 0 < cnt ns := by have := faultM_whole h; omega
  have R := roomM_is (ns := ns) hn
  have hz : 0 < pz ∧ pz < at_ ns 0 := by
    unfold insideI at hp
    simp only [Bool.and_eq_true, decide_eq_true_eq] at hp
    exact hp.2
  have := first_height (r := roomM ns) (p := ⟨px, py, pz⟩) (q := ⟨qx, qy, qz⟩) ⟨Rat.intCast_pos.mpr hz.1, by rw [h_M h]; exact Rat.intCast_lt_intCast.mpr hz.2⟩ (first_M hn F)
  rw [z_M F.d0, h_M h, frac_nonneg F.d0, frac_le F.d0] at this
  exact this
theorem first_line (h : faultM ns = none) (hp : insideI (linesM ns) (at_ ns 0) px py pz = true) (F : IsFirst (linesM ns) (at_ ns 0) px py pz qx qy qz N D) {w : Nat} (hw : w < cnt ns) (h1 : onW D (plX px qx N D) (plX py qy N D) (lnAt (linesM ns) w)) :
    ∃ j a, j < cnt ns ∧ hitI px py (qx - px) (qy - py) (lnAt (linesM ns) j) = some a ∧ a.1 * D = N * a.2 := by
  have hn : 0 < cnt ns := by have := faultM_whole h; omega
  have R := roomM_is (ns := ns) hn
  obtain ⟨j, hj, e⟩ := first_on (good_M h) (within_pt h hp) (first_M hn F) (by rw [n_M h]; exact hw) (by rw [on_M h F.d0 hw]; exact decide_eq_true h1)
  rw [n_M h] at hj
  rw [meetsAt_M hn] at e
  unfold hitW at e
  rw [if_pos (by rw [lines_len]; exact hj)] at e
  cases e2 : hitI px py (qx - px) (qy - py) (lnAt (linesM ns) j) with
  | none =>
    rw [e2] at e
    cases e
  | some a =>
    rw [e2] at e
    have p := hitI_pos e2
    refine ⟨j, a, hj, e2, ?_⟩
    exact (frac_eq2 p.2 F.d0).mp (Option.some.inj e)
/-- a line that is met: where -/
theorem hit_on (h : faultM ns = none) {w : Nat} (hw : w < cnt ns) {a : Int × Int} (e : hitI px py (qx - px) (qy - py) (lnAt (linesM ns) w) = some a) (d0 : 0 < D) (ea : a.1 * D = N * a.2) : onW D (plX px qx N D) (plX py qy N D) (lnAt (linesM ns) w) := by
  have hn : 0 < cnt ns := by have := faultM_whole h; omega
  have p := hitI_pos e
  have m : (roomM ns).meetsAt ⟨px, py, ((0 : Int) : Rat)⟩ ⟨qx, qy, ((0 : Int) : Rat)⟩ w = some ((N : Rat) / (D : Rat)) := by
    rw [meetsAt_M hn]
    unfold hitW
    rw [if_pos (by rw [lines_len]; exact hw), e]
    show some (quot a) = _
    unfold quot
    rw [(frac_eq2 p.2 d0).mpr ea]
  have k := (of_meetsAt (by rw [n_M h]; exact hw) m).2.2
  have z := on_M (px := px) (py := py) (pz := 0) (qx := qx) (qy := qy) (qz := 0) (N := N) h d0 hw
  have k' : onLine ((roomM ns).line w) (onWay ⟨px, py, ((0 : Int) : Rat)⟩ ⟨qx, qy, ((0 : Int) : Rat)⟩ ((N : Rat) / (D : Rat))) = true := k
  rw [k'] at z
  exact of_decide_eq_true z.symm
end
end Rm

set_option Elab.async false
set_option linter.all false
namespace Rm
open Eh
/-! ### mirror as the program reckons it -/
def sqL (l : Ln) : Int := l.dx * l.dx + l.dy * l.dy
def mirI (l : Ln) (x y : Int) : List Int := [x + l.dy * (2 * side l x y) / sqL l, y - l.dx * (2 * side l x y) / sqL l]
theorem sqL_pos {l : Ln} (h : hasDir l = true) : 0 < sqL l := by
  have p : ∀ c : Int, c ≠ 0 → 0 < c * c := fun c hc => by
    rcases Int.lt_or_gt_of_ne hc with q | q
    · exact Int.mul_pos_of_neg_of_neg q q
    · exact Int.mul_pos q q
  have n : ∀ c : Int, 0 ≤ c * c := fun c => by
    by_cases q : c = 0
    · rw [q]; decide
    · exact Int.le_of_lt (p c q)
  unfold sqL
  have a := n l.dx
  have b := n l.dy
  rcases hasDir_cases h with ⟨_, q⟩ | ⟨_, q⟩ | ⟨_, q⟩ | ⟨_, q⟩
  · have := p _ q; omega
  · have := p _ q; omega
  · have := p _ q; omega
  · have := p _ q; omega
theorem div_of {a s b : Int} (hs : 0 < s) (h : a = s * b) : a / s = b := by
  rw [h]
  exact Int.mul_ediv_cancel_left b (by omega)
theorem mir_dir {l : Ln} (h : hasDir l = true) (x y z : Int) : mirI l x y ++ [z] = if l.x0 = l.x1 then [2 * l.x0 - x, y, z]
    else if l.y0 = l.y1 then [x, 2 * l.y0 - y, z]
    else if l.x1 - l.x0 = l.y1 - l.y0 then [y - (l.y0 - l.x0), x + (l.y0 - l.x0), z]
    else [l.x0 + l.y0 - y, l.x0 + l.y0 - x, z] := by
  have hs := sqL_pos h
  have key : ∀ a b : Int, l.dy * (2 * side l x y) = sqL l * a → l.dx * (2 * side l x y) = sqL l * b → mirI l x y ++ [z] = [x + a, y - b, z] := fun a b h1 h2 => by
    unfold mirI
    rw [div_of hs h1, div_of hs h2]
    rfl
  rcases hasDir_cases h with ⟨a, b⟩ | ⟨a, b⟩ | ⟨a, b⟩ | ⟨a, b⟩
  · rw [key 0 (2 * (y - l.y0)) (by rw [a, Int.zero_mul, Int.mul_zero]) (by unfold sqL side; rw [a]; grind)]
    unfold Ln.dx at b
    unfold Ln.dy at a
    rw [if_neg (by omega), if_pos (by omega)]
    congr 1
    · omega
    · congr 1
      omega
  · rw [key (-2 * (x - l.x0)) 0 (by unfold sqL side; rw [a]; grind) (by rw [a, Int.zero_mul, Int.mul_zero])]
    unfold Ln.dx at a
    unfold Ln.dy at b
    rw [if_pos (by omega)]
    congr 1
    · omega
    · congr 1
      omega
  · rw [key ((y - l.y0) - (x - l.x0)) ((y - l.y0) - (x - l.x0)) (by unfold sqL side; rw [a]; grind) (by unfold sqL side; rw [a]; grind)]
    unfold Ln.dx Ln.dy at a
    unfold Ln.dx at b
    rw [if_neg (by omega), if_neg (by omega), if_pos (by omega)]
    congr 1
    · omega
    · congr 1
      omega
  · have a' : l.dy = - l.dx := by omega
    rw [key (-((y - l.y0) + (x - l.x0))) ((y - l.y0) + (x - l.x0)) (by unfold sqL side; rw [a']; grind) (by unfold sqL side; rw [a']; grind)]
    unfold Ln.dx Ln.dy at a
    unfold Ln.dx at b
    rw [if_neg (by omega), if_neg (by omega), if_neg (by omega)]
    congr 1
    · omega
    · congr 1
      omega
theorem fault_none {ns : List Int} (h : faultM ns = none) : badCorner ns = none ∧ wrongLine (linesM ns) = none ∧ goingOn (linesM ns) = none ∧ lineMet (linesM ns) = none ∧ 0 < area (linesM ns) := by
  unfold faultM at h
  by_cases w : whole ns = false
  · rw [if_pos w] at h
    cases h
  · rw [if_neg w] at h
    by_cases d : head ns = false
    · rw [if_pos d] at h
      cases h
    · rw [if_neg d] at h
      cases e1 : badCorner ns with
      | some i =>
        rw [e1] at h
        cases h
      | none =>
        rw [e1] at h
        have h : faultL (linesM ns) = none := h
        unfold faultL at h
        cases e2 : wrongLine (linesM ns) with
        | some i =>
          rw [e2] at h
          cases h
        | none =>
          rw [e2] at h
          cases e3 : goingOn (linesM ns) with
          | some i =>
            rw [e3] at h
            cases h
          | none =>
            rw [e3] at h
            cases e4 : lineMet (linesM ns) with
            | some i =>
              rw [e4] at h
              cases h
            | none =>
              rw [e4] at h
              have h : (if area (linesM ns) ≤ 0 then some (7, 0) else none) = (none : Option (Nat × Nat)) := h
              by_cases q : area (linesM ns) ≤ 0
              · rw [if_pos q] at h
                cases h
              · exact ⟨rfl, rfl, rfl, rfl, by omega⟩
theorem len_lines (ns : List Int) : (linesM ns).length = cnt ns := by unfold linesM; rw [List.length_map, List.length_range]
theorem dir_of {ns : List Int} (h : faultM ns = none) {i : Nat} (hi : i < cnt ns) : hasDir (lnAt (linesM ns) i) = true := by
  have q := find_none_all (fault_none h).2.1 (i := i) (by rw [len_lines]; exact hi)
  rw [Bool.not_eq_false'] at q
  exact q
def InBox (l : Ln) : Prop := (0 ≤ l.x0 ∧ l.x0 ≤ 4095) ∧ (0 ≤ l.y0 ∧ l.y0 ≤ 4095) ∧ (0 ≤ l.x1 ∧ l.x1 ≤ 4095) ∧ (0 ≤ l.y1 ∧ l.y1 ≤ 4095)
theorem box_of {ns : List Int} (h : faultM ns = none) {i : Nat} (hi : i < cnt ns) : InBox (lnAt (linesM ns) i) := by
  have ok : ∀ i, i < cnt ns → (0 ≤ at_ ns (3 + 3 * i) ∧ at_ ns (3 + 3 * i) ≤ 4095) ∧ (0 ≤ at_ ns (3 + 3 * i + 1) ∧ at_ ns (3 + 3 * i + 1) ≤ 4095) := fun i hi => by
    have q := find_none_all (fault_none h).1 hi
    rw [Bool.not_eq_false'] at q
    unfold okCorner okCoord at q
    simp only [Bool.and_eq_true, decide_eq_true_eq] at q
    exact ⟨q.1, q.2.1⟩
  unfold linesM
  rw [lnAt_map _ _ _ hi]
  have hm : (i + 1) % cnt ns < cnt ns := Nat.mod_lt _ (by omega)
  exact ⟨(ok i hi).1, (ok i hi).2, (ok _ hm).1, (ok _ hm).2⟩
theorem sq_le {a : Int} (h1 : -4095 ≤ a) (h2 : a ≤ 4095) : a * a ≤ 16769025 := by
  have := Int.mul_nonneg (show 0 ≤ 4095 - a by omega) (show 0 ≤ 4095 + a by omega)
  grind
theorem sqL_lt {l : Ln} (h : InBox l) : sqL l < 1073741824 := by
  obtain ⟨a, b, c, d⟩ := h
  have := sq_le (a := l.dx) (by unfold Ln.dx; omega) (by unfold Ln.dx; omega)
  have := sq_le (a := l.dy) (by unfold Ln.dy; omega) (by unfold Ln.dy; omega)
  unfold sqL
  omega
/-- what the program answers -/
def mirrorP (w x y z : Int) (ns : List Int) : List Int := match faultM ns with
  | some p => [-5, (p.1 : Int), (p.2 : Int)]
  | none => if w < (cnt ns : Int) then 0 :: (mirI (lnAt (linesM ns) w.toNat) x y ++ [z]) else if w = (cnt ns : Int) then [0, x, y, -z] else if w = (cnt ns : Int) + 1 then [0, x, y, 2 * at_ ns 0 - z] else [-1]
theorem mirror_P (w x y z : Int) (ns : List Int) (hw : 0 ≤ w) : PyYqbeaa.mirror w x y z ns = mirrorP w x y z ns := by
  rw [mirror_eq w x y z ns hw]
  unfold mirrorM mirrorP
  cases e : faultM ns with
  | some p => rfl
  | none =>
    show (if cnt ns + 2 ≤ w.toNat then [-1] else 0 :: mirrorI (linesM ns) (at_ ns 0) w.toNat x y z) = _
    unfold mirrorI
    rw [len_lines]
    by_cases a : w < (cnt ns : Int)
    · rw [if_pos a, if_neg (by omega), if_pos (by omega), mir_dir (dir_of e (by omega))]
    · rw [if_neg a]
      by_cases b : w = (cnt ns : Int)
      · rw [if_pos b, if_neg (by omega), if_neg (by omega), if_pos (by omega)]
      · rw [if_neg b]
        by_cases c : w = (cnt ns : Int) + 1
        · rw [if_pos c, if_neg (by omega), if_neg (by omega), if_neg (by omega)]
        · rw [if_neg c, if_pos (by omega)]
end Rm

set_option Elab.async false
set_option linter.all false
namespace Rm
open Eh
/-! ### crossing one line changes even and odd -/
/-- the line from a to b and the way from p to m go across each other -/
def Cut (a b p m : Pt) : Prop := left a b p * left a b m < 0 ∧ left p m a * left p m b < 0
theorem Cut.swap {a b p m : Pt} (h : Cut a b p m) : Cut b a p m := by
  obtain ⟨h1, h2⟩ := h
  refine ⟨?_, by rw [Rat.mul_comm]; exact h2⟩
  rw [left_swap, left_swap a b m]
  grind
theorem Cut.back {a b p m : Pt} (h : Cut a b p m) : Cut a b m p := by
  obtain ⟨h1, h2⟩ := h
  refine ⟨by rw [Rat.mul_comm]; exact h1, ?_⟩
  rw [left_swap, left_swap p m b]
  grind
/-- the place where they cross -/
theorem Cut.at {a b p m : Pt} (h : Cut a b p m) : ∃ s u : Rat, 0 < s ∧ s < 1 ∧ 0 < u ∧ u < 1 ∧ left a b p + s * (left a b m - left a b p) = 0 ∧ p.y + s * (m.y - p.y) = a.y + u * (b.y - a.y) ∧ p.x + s * (m.x - p.x) = a.x + u * (b.x - a.x) := by
  obtain ⟨h1, h2⟩ := h
  have frac : ∀ {x y : Rat}, x * y < 0 → ∃ s : Rat, 0 < s ∧ s < 1 ∧ x + s * (y - x) = 0 := fun {x y} h => by
    have d0 : x - y ≠ 0 := by
      rcases r_neg_cases h with ⟨c1, c2⟩ | ⟨c1, c2⟩ <;> grind
    have e : x / (x - y) * (x - y) = x := Rat.div_mul_cancel d0
    generalize x / (x - y) = s at e
    refine ⟨s, ?_, ?_, by grind⟩
    · refine Rat.not_le.mp fun q => ?_
      rcases r_neg_cases h with ⟨c1, c2⟩ | ⟨c1, c2⟩
      · have := Rat.mul_nonneg (show 0 ≤ -s by grind) (show 0 ≤ y - x by grind)
        grind
      · have := Rat.mul_nonneg (show 0 ≤ -s by grind) (show 0 ≤ x - y by grind)
        grind
    · refine Rat.not_le.mp fun q => ?_
      rcases r_neg_cases h with ⟨c1, c2⟩ | ⟨c1, c2⟩
      · have := Rat.mul_nonneg (show 0 ≤ s - 1 by grind) (show 0 ≤ y - x by grind)
        grind
      · have := Rat.mul_nonneg (show 0 ≤ s - 1 by grind) (show 0 ≤ x - y by grind)
        grind
  obtain ⟨s, s0, s1, es⟩ := frac h1
  obtain ⟨u, u0, u1, eu⟩ := frac h2
  have hD : (b.x - a.x) * (m.y - p.y) - (b.y - a.y) * (m.x - p.x) ≠ 0 := by
    have e : left a b m - left a b p = (b.x - a.x) * (m.y - p.y) - (b.y - a.y) * (m.x - p.x) := by
      unfold left
      grind
    rw [← e]
    rcases r_neg_cases h1 with ⟨c1, c2⟩ | ⟨c1, c2⟩ <;> grind
  refine ⟨s, u, s0, s1, u0, u1, es, ?_, ?_⟩
  · unfold left at es eu
    have : ((b.x - a.x) * (m.y - p.y) - (b.y - a.y) * (m.x - p.x)) * (p.y + s * (m.y - p.y) - (a.y + u * (b.y - a.y))) = 0 := by grind
    have := mul_cancel0 hD this
    grind
  · unfold left at es eu
    have : ((b.x - a.x) * (m.y - p.y) - (b.y - a.y) * (m.x - p.x)) * (p.x + s * (m.x - p.x) - (a.x + u * (b.x - a.x))) = 0 := by grind
    have := mul_cancel0 hD this
    grind
/-- the two ends of the common stretch of heights -/
theorem edge_ends {a b p m : Pt} (h : a.y < b.y) (hp : p.y < m.y) (C : p.y < b.y ∧ a.y ≤ m.y) : ∃ s1 s2 : Rat, s1 ≤ s2 ∧ (s1 = 0 ∨ s1 * (m.y - p.y) = a.y - p.y) ∧ (s2 = 1 ∨ s2 * (m.y - p.y) = b.y - p.y) ∧
    (crosses p (a, b) ^^ rightOf p m a) = decide (0 < left a b p + s1 * (left a b m - left a b p)) ∧ (crosses m (a, b) ^^ rightOf p m b) = decide (0 < left a b p + s2 * (left a b m - left a b p)) := by
  have D : 0 < m.y - p.y := by grind
  have E : 0 < b.y - a.y := by grind
  have D0 : m.y - p.y ≠ 0 := by grind
  rw [cross_up h, cross_up h]
  unfold rightOf
  have start : ∃ s1, 0 ≤ s1 ∧ s1 ≤ 1 ∧ (a.y - p.y ≤ s1 * (m.y - p.y)) ∧ (s1 * (m.y - p.y) ≤ b.y - p.y) ∧ (s1 = 0 ∨ s1 * (m.y - p.y) = a.y - p.y) ∧
      ((decide (a.y ≤ p.y) && (decide (p.y < b.y) && decide (0 < left a b p))) ^^ (decide (p.y < a.y) && (decide (a.y ≤ m.y) && decide (left p m a < 0)))) = decide (0 < left a b p + s1 * (left a b m - left a b p)) := by
    by_cases q : a.y ≤ p.y
    · refine ⟨0, by decide, by decide, by grind, by grind, .inl rfl, ?_⟩
      rw [decide_eq_true q, decide_eq_true C.1, decide_eq_false (show ¬ p.y < a.y by grind)]
      have e : left a b p + 0 * (left a b m - left a b p) = left a b p := by grind
      rw [e]
      simp
    · have q' : p.y < a.y := by grind
      have es : (a.y - p.y) / (m.y - p.y) * (m.y - p.y) = a.y - p.y := Rat.div_mul_cancel D0
      generalize (a.y - p.y) / (m.y - p.y) = s1 at es
      have k0 : 0 ≤ s1 := Rat.not_lt.mp fun z => by
        have := r_neg_pos z D
        grind
      have k1 : s1 ≤ 1 := Rat.not_lt.mp fun z => by
        have := Rat.mul_pos (show 0 < s1 - 1 by grind) D
        grind
      refine ⟨s1, k0, k1, by grind, by grind, .inr es, ?_⟩
      rw [decide_eq_false q, decide_eq_true q', decide_eq_true C.2, Bool.false_and, Bool.false_xor, Bool.true_and, Bool.true_and]
      have id1 : (m.y - p.y) * (left a b p + s1 * (left a b m - left a b p)) = (b.y - a.y) * (- left p m a) := by
        have : (m.y - p.y) * (left a b p + s1 * (left a b m - left a b p)) = (m.y - p.y) * left a b p + (a.y - p.y) * (left a b m - left a b p) := by grind
        rw [this]
        unfold left
        grind
      rw [Bool.eq_iff_iff, decide_eq_true_eq, decide_eq_true_eq]
      constructor
      · intro z
        have := Rat.mul_pos E (show 0 < - left p m a by grind)
        rw [← id1] at this
        exact r_pos_neg D this
      · intro z
        have := Rat.mul_pos D z
        rw [id1] at this
        have := r_pos_neg E this
        grind
  have stop : ∃ s2, 0 ≤ s2 ∧ s2 ≤ 1 ∧ (s2 * (m.y - p.y) ≤ b.y - p.y) ∧ (a.y - p.y ≤ s2 * (m.y - p.y)) ∧ (s2 = 1 ∨ s2 * (m.y - p.y) = b.y - p.y) ∧
      ((decide (a.y ≤ m.y) && (decide (m.y < b.y) && decide (0 < left a b m))) ^^ (decide (p.y < b.y) && (decide (b.y ≤ m.y) && decide (left p m b < 0)))) = decide (0 < left a b p + s2 * (left a b m - left a b p)) := by
    by_cases q : m.y < b.y
    · refine ⟨1, by decide, by decide, by grind, by grind, .inl rfl, ?_⟩
      rw [decide_eq_true q, decide_eq_true C.2, decide_eq_false (show ¬ b.y ≤ m.y by grind)]
      have e : left a b p + 1 * (left a b m - left a b p) = left a b m := by grind
      rw [e]
      simp
    · have q' : b.y ≤ m.y := by grind
      have es : (b.y - p.y) / (m.y - p.y) * (m.y - p.y) = b.y - p.y := Rat.div_mul_cancel D0
      generalize (b.y - p.y) / (m.y - p.y) = s2 at es
      have k0 : 0 ≤ s2 := Rat.not_lt.mp fun z => by
        have := r_neg_pos z D
        grind
      have k1 : s2 ≤ 1 := Rat.not_lt.mp fun z => by
        have := Rat.mul_pos (show 0 < s2 - 1 by grind) D
        grind
      refine ⟨s2, k0, k1, by grind, by grind, .inr es, ?_⟩
      rw [decide_eq_false q, decide_eq_true q', decide_eq_true C.1, Bool.false_and, Bool.and_false, Bool.false_xor, Bool.true_and, Bool.true_and]
      have id1 : (m.y - p.y) * (left a b p + s2 * (left a b m - left a b p)) = (b.y - a.y) * (- left p m b) := by
        have : (m.y - p.y) * (left a b p + s2 * (left a b m - left a b p)) = (m.y - p.y) * left a b p + (b.y - p.y) * (left a b m - left a b p) := by grind
        rw [this]
        unfold left
        grind
      rw [Bool.eq_iff_iff, decide_eq_true_eq, decide_eq_true_eq]
      constructor
      · intro z
        have := Rat.mul_pos E (show 0 < - left p m b by grind)
        rw [← id1] at this
        exact r_pos_neg D this
      · intro z
        have := Rat.mul_pos D z
        rw [id1] at this
        have := r_pos_neg E this
        grind
  obtain ⟨s1, a1, a2, a3, a4, a5, a6⟩ := start
  obtain ⟨s2, b1, b2, b3, b4, b5, b6⟩ := stop
  have h12 : s1 ≤ s2 := Rat.not_lt.mp fun z => by
    have w := Rat.mul_pos (show 0 < s1 - s2 by grind) D
    grind
  exact ⟨s1, s2, h12, a5, b5, a6, b6⟩

theorem flip_up {a b p m : Pt} (h : a.y < b.y) (hp : p.y < m.y) (c : Cut a b p m) : (crosses p (a, b) ^^ crosses m (a, b)) = !(rightOf p m a ^^ rightOf p m b) := by
  obtain ⟨s, u, s0, s1, u0, u1, es, ey, ex⟩ := c.at
  have D : 0 < m.y - p.y := by grind
  have E : 0 < b.y - a.y := by grind
  have q1 := Rat.mul_pos s0 D
  have q2 := Rat.mul_pos (show 0 < 1 - s by grind) D
  have q3 := Rat.mul_pos u0 E
  have q4 := Rat.mul_pos (show 0 < 1 - u by grind) E
  obtain ⟨t1, t2, h12, k1, k2, e1, e2⟩ := edge_ends h hp ⟨by grind, by grind⟩
  have l1 : t1 < s := by
    refine Rat.not_le.mp fun z => ?_
    rcases k1 with k | k
    · grind
    · have := Rat.mul_nonneg (show 0 ≤ t1 - s by grind) (Rat.le_of_lt D)
      grind
  have l2 : s < t2 := by
    refine Rat.not_le.mp fun z => ?_
    rcases k2 with k | k
    · grind
    · have := Rat.mul_nonneg (show 0 ≤ s - t2 by grind) (Rat.le_of_lt D)
      grind
  have diff : decide (0 < left a b p + t1 * (left a b m - left a b p)) = !decide (0 < left a b p + t2 * (left a b m - left a b p)) := by
    have v1 : left a b p + t1 * (left a b m - left a b p) = (s - t1) * (left a b p - left a b m) := by grind
    have v2 : left a b p + t2 * (left a b m - left a b p) = (t2 - s) * (left a b m - left a b p) := by grind
    rw [v1, v2]
    rcases r_neg_cases c.1 with ⟨c1, c2⟩ | ⟨c1, c2⟩
    · have w1 := Rat.mul_pos (show 0 < s - t1 by grind) (show 0 < left a b m - left a b p by grind)
      have w2 := Rat.mul_pos (show 0 < t2 - s by grind) (show 0 < left a b m - left a b p by grind)
      rw [decide_eq_true w2, decide_eq_false (by grind)]
      rfl
    · have w1 := Rat.mul_pos (show 0 < s - t1 by grind) (show 0 < left a b p - left a b m by grind)
      have w2 := Rat.mul_pos (show 0 < t2 - s by grind) (show 0 < left a b p - left a b m by grind)
      rw [decide_eq_true w1, decide_eq_false (by grind)]
      rfl
  rw [← e1, ← e2] at diff
  revert diff
  generalize crosses p (a, b) = x1
  generalize crosses m (a, b) = x2
  generalize rightOf p m a = x3
  generalize rightOf p m b = x4
  cases x1 <;> cases x2 <;> cases x3 <;> cases x4 <;> simp
theorem flip_flat {a b p m : Pt} (h : a.y = b.y) (hp : p.y < m.y) (c : Cut a b p m) : (rightOf p m a ^^ rightOf p m b) = true := by
  obtain ⟨s, u, s0, s1, u0, u1, es, ey, ex⟩ := c.at
  have D : 0 < m.y - p.y := by grind
  have q1 := Rat.mul_pos s0 D
  have q2 := Rat.mul_pos (show 0 < 1 - s by grind) D
  have ey' : a.y = p.y + s * (m.y - p.y) := by
    rw [ey, h]
    grind
  unfold rightOf
  rw [← h, decide_eq_true (show p.y < a.y by grind), decide_eq_true (show a.y ≤ m.y by grind), Bool.true_and, Bool.true_and, Bool.true_and, Bool.true_and]
  rcases r_neg_cases c.2 with ⟨c1, c2⟩ | ⟨c1, c2⟩
  · rw [decide_eq_true c1, decide_eq_false (by grind)]
    rfl
  · rw [decide_eq_true c2, decide_eq_false (by grind)]
    rfl
theorem flip_any {a b p m : Pt} (hp : p.y < m.y) (c : Cut a b p m) : (crosses p (a, b) ^^ crosses m (a, b)) = !(rightOf p m a ^^ rightOf p m b) := by
  by_cases e : a.y = b.y
  · rw [cross_flat e, cross_flat e, flip_flat e hp c]
    rfl
  · rcases Rat.le_total (a := a.y) (b := b.y) with q | q
    · exact flip_up (by grind) hp c
    · have := flip_up (a := b) (b := a) (by grind) hp c.swap
      rw [cross_swap a b, cross_swap a b] at this
      rw [this, Bool.xor_comm]
theorem flip_level {a b p m : Pt} (hp : p.y = m.y) (c : Cut a b p m) : (crosses p (a, b) ^^ crosses m (a, b)) = true := by
  have up : ∀ {a b : Pt}, a.y < b.y → Cut a b p m → (crosses p (a, b) ^^ crosses m (a, b)) = true := fun {a b} h c => by
    obtain ⟨s, u, s0, s1, u0, u1, es, ey, ex⟩ := c.at
    have E : 0 < b.y - a.y := by grind
    have q3 := Rat.mul_pos u0 E
    have q4 := Rat.mul_pos (show 0 < 1 - u by grind) E
    have ez : s * (m.y - p.y) = 0 := by
      rw [show m.y - p.y = 0 by grind]
      exact Rat.mul_zero _
    rw [cross_up h, cross_up h, ← hp, decide_eq_true (show a.y ≤ p.y by grind), decide_eq_true (show p.y < b.y by grind), Bool.true_and, Bool.true_and, Bool.true_and, Bool.true_and]
    rcases r_neg_cases c.1 with ⟨c1, c2⟩ | ⟨c1, c2⟩
    · rw [decide_eq_true c2, decide_eq_false (by grind)]
      rfl
    · rw [decide_eq_true c1, decide_eq_false (by grind)]
      rfl
  by_cases e : a.y = b.y
  · exfalso
    have h2 := c.1
    have e1 : left a b p = left a b m := by
      unfold left
      rw [e, hp]
      grind
    rw [e1] at h2
    rcases r_neg_cases h2 with ⟨c1, c2⟩ | ⟨c1, c2⟩ <;> grind
  · rcases Rat.le_total (a := a.y) (b := b.y) with q | q
    · exact up (by grind) c
    · rw [← cross_swap a b, ← cross_swap a b]
      exact up (by grind) c.swap
theorem flip_all {a b p m : Pt} (c : Cut a b p m) : (crosses p (a, b) ^^ crosses m (a, b)) = !(beside p m a ^^ beside p m b) := by
  unfold beside
  by_cases h1 : p.y < m.y
  · rw [if_pos h1, if_pos h1]
    exact flip_any h1 c
  · rw [if_neg h1, if_neg h1]
    by_cases h2 : m.y < p.y
    · rw [if_pos h2, if_pos h2, Bool.xor_comm]
      exact flip_any h2 c.back
    · rw [if_neg h2, if_neg h2]
      rw [flip_level (show p.y = m.y by grind) c]
      rfl
theorem par2_one (k : Nat) : ∀ n : Nat, par2 (fun i => decide (i = k)) (List.range n) = decide (k < n)
  | 0 => by simp [par2]
  | n + 1 => by
    rw [List.range_succ, par2_append, par2_one k n]
    show (decide (k < n) ^^ (decide (n = k) ^^ false)) = _
    by_cases q : n = k
    · rw [decide_eq_true q, decide_eq_false (by omega), decide_eq_true (by omega)]
      rfl
    · rw [decide_eq_false q, Bool.xor_false, Bool.xor_false, Bool.eq_iff_iff, decide_eq_true_eq, decide_eq_true_eq]
      omega
theorem Cut.off {a b p m : Pt} (c : Cut a b p m) : onLine (a, b) p = false ∧ onLine (a, b) m = false := by
  have h := c.1
  unfold onLine
  constructor
  · have : (left a b p == 0) = false := beq_eq_false_iff_ne.mpr fun z => by rw [z, Rat.zero_mul] at h; exact absurd h (by decide)
    show (left a b p == 0 && _) = false
    rw [this, Bool.false_and]
  · have : (left a b m == 0) = false := beq_eq_false_iff_ne.mpr fun z => by rw [z, Rat.mul_zero] at h; exact absurd h (by decide)
    show (left a b m == 0 && _) = false
    rw [this, Bool.false_and]
/-- one line is crossed and no other is met: within on one side alone -/
theorem within_flip {r : Room} {p m : Pt} {k : Nat} (hk : k < r.n) (c : Cut (r.line k).1 (r.line k).2 p m) (nt : ∀ j, j < r.n → j ≠ k → Apart (r.line j) p m) : r.within m = !r.within p := by
  have offp : ∀ v : Pt, (v = p ∨ v = m) → (r.lines.any fun (l : Pt × Pt) => onLine l v) = false := fun v hv => by
    rw [List.any_eq_false]
    intro l hl
    obtain ⟨j, hj, rfl⟩ := mem_lines.mp hl
    by_cases q : j = k
    · rw [q]
      rcases hv with e | e <;> subst e
      · rw [show onLine (r.line k) v = false from c.off.1]; decide
      · rw [show onLine (r.line k) v = false from c.off.2]; decide
    · rcases hv with e | e
      · have := nt j hj q 0 (by decide) (by decide)
        rw [way0] at this
        rw [e, this]; decide
      · have := nt j hj q 1 (by decide) (by decide)
        rw [way1] at this
        rw [e, this]; decide
  have e : (par2 (crosses p) r.lines ^^ par2 (crosses m) r.lines) = true := by
    rw [par2_xor]
    unfold Room.lines
    rw [par2_map, par2_congr (g := fun i => ((beside p m (r.corner i).at_ ^^ beside p m (r.corner (i + 1)).at_) ^^ decide (i = k))) (fun i hi => by
      rw [List.mem_range] at hi
      by_cases q : i = k
      · rw [decide_eq_true q, Bool.xor_true, q]
        exact flip_all c
      · rw [decide_eq_false q, Bool.xor_false]
        exact edge_all (nt i hi q)), ← par2_xor, par2_one, decide_eq_true hk]
    have := par2_round (fun i => beside p m (r.corner i).at_) r.n
    rw [corner_round, Bool.xor_self] at this
    rw [this]
    rfl
  unfold Room.within
  rw [offp p (.inl rfl), offp m (.inr rfl), ← par2_count, ← par2_count, Bool.not_false, Bool.true_and, Bool.true_and]
  revert e
  cases par2 (crosses p) r.lines <;> cases par2 (crosses m) r.lines <;> simp
end Rm

set_option Elab.async false
set_option linter.all false
namespace Rm
open Eh
/-! ### from some size down -/
def Small (P : Rat → Prop) : Prop := ∃ d : Rat, 0 < d ∧ ∀ e : Rat, 0 < e → e ≤ d → P e
theorem Small.and {P Q : Rat → Prop} (h : Small P) (k : Small Q) : Small (fun e => P e ∧ Q e) := by
  obtain ⟨d, d0, hd⟩ := h
  obtain ⟨c, c0, hc⟩ := k
  exact ⟨min d c, by grind, fun e e0 e1 => ⟨hd e e0 (by grind), hc e e0 (by grind)⟩⟩
theorem Small.imp {P Q : Rat → Prop} (h : Small P) (k : ∀ e, 0 < e → P e → Q e) : Small Q := by
  obtain ⟨d, d0, hd⟩ := h
  exact ⟨d, d0, fun e e0 e1 => k e e0 (hd e e0 e1)⟩
theorem Small.ex {P : Rat → Prop} (h : Small P) : ∃ e : Rat, 0 < e ∧ P e := by
  obtain ⟨d, d0, hd⟩ := h
  exact ⟨d, d0, hd d d0 Rat.le_refl⟩
theorem Small.of {P : Rat → Prop} (h : ∀ e, 0 < e → P e) : Small P := ⟨1, by decide, fun e e0 _ => h e e0⟩
theorem Small.all {P : Nat → Rat → Prop} : ∀ n : Nat, (∀ i, i < n → Small (P i)) → Small (fun e => ∀ i, i < n → P i e)
  | 0, _ => ⟨1, by decide, fun e _ _ i hi => absurd hi (Nat.not_lt_zero _)⟩
  | n + 1, h => by
    refine ((Small.all n fun i hi => h i (by omega)).and (h n (by omega))).imp fun e e0 ⟨a, b⟩ i hi => ?_
    by_cases q : i = n
    · rw [q]; exact b
    · exact a i (by omega)
theorem Small.lt {c : Rat} (h : 0 < c) : Small (fun e => e < c) := ⟨c / 2, by
    have e : c / 2 * 2 = c := Rat.div_mul_cancel (by decide)
    grind, fun e e0 e1 => by
    have q : c / 2 * 2 = c := Rat.div_mul_cancel (by decide)
    grind⟩
theorem small_pos (c0 c1 c2 : Rat) (h : 0 < c0) : Small (fun e => 0 < c0 + e * (c1 + e * c2)) := by
  have hM : 0 < max c1 (-c1) + max c2 (-c2) + 1 := by grind
  generalize eM : max c1 (-c1) + max c2 (-c2) + 1 = M at hM
  have hq : c0 / M * M = c0 := Rat.div_mul_cancel (by grind)
  have hpos : 0 < c0 / M := div_pos_pp h hM
  generalize c0 / M = q at hq hpos
  refine ((Small.lt hpos).and (Small.lt (show (0 : Rat) < 1 by decide))).imp fun e e0 ⟨e1, e2⟩ => ?_
  have m1 := Rat.mul_pos (show 0 < q - e by grind) hM
  have m2 : 0 ≤ M + (c1 + e * c2) := by
    have w1 := Rat.mul_nonneg (Rat.le_of_lt e0) (show 0 ≤ max c2 (-c2) + c2 by grind)
    have w2 := Rat.mul_nonneg (show 0 ≤ 1 - e by grind) (show 0 ≤ max c2 (-c2) by grind)
    grind
  have m3 := Rat.mul_nonneg (Rat.le_of_lt e0) m2
  grind
/-! ### a straight line between -/
def phi (a b c : Rat) (v : Pt) : Rat := a * v.x + b * v.y + c
theorem phi_way (a b c : Rat) (p m : Pt) (s : Rat) : phi a b c (onWay p m s) = phi a b c p + s * (phi a b c m - phi a b c p) := by
  unfold phi onWay
  grind
theorem mix_pos {x y s : Rat} (h0 : 0 ≤ s) (h1 : s ≤ 1) (hx : 0 < x) (hy : 0 < y) : 0 < x + s * (y - x) := by
  by_cases q : s = 1
  · rw [q]; grind
  · have := Rat.mul_pos (show 0 < 1 - s by grind) hx
    have := Rat.mul_nonneg h0 (Rat.le_of_lt hy)
    grind
theorem mix_np {x y s : Rat} (h0 : 0 ≤ s) (h1 : s ≤ 1) (hx : x ≤ 0) (hy : y ≤ 0) : x + s * (y - x) ≤ 0 := by
  have := Rat.mul_nonneg (show 0 ≤ 1 - s by grind) (show 0 ≤ -x by grind)
  have := Rat.mul_nonneg h0 (show 0 ≤ -y by grind)
  grind
theorem phi_on {a b c : Rat} {l : Pt × Pt} {v : Pt} (h1 : phi a b c l.1 ≤ 0) (h2 : phi a b c l.2 ≤ 0) (h : onLine l v = true) : phi a b c v ≤ 0 := by
  obtain ⟨u, u0, u1, ex, ey⟩ := on_param h
  have e : phi a b c v = phi a b c l.1 + u * (phi a b c l.2 - phi a b c l.1) := by
    unfold phi
    rw [ex, ey]
    grind
  rw [e]
  exact mix_np u0 u1 h1 h2
theorem sep_apart {a b c : Rat} {l : Pt × Pt} {p m : Pt} (h1 : phi a b c l.1 ≤ 0) (h2 : phi a b c l.2 ≤ 0) (h3 : 0 < phi a b c p) (h4 : 0 < phi a b c m) : Apart l p m := fun s s0 s1 => by
  cases e : onLine l (onWay p m s) with
  | false => rfl
  | true =>
    have q := phi_on h1 h2 e
    rw [phi_way] at q
    have := mix_pos s0 s1 h3 h4
    grind
theorem left_phi (a b v : Pt) : left a b v = phi (-(b.y - a.y)) (b.x - a.x) ((b.y - a.y) * a.x - (b.x - a.x) * a.y) v := by
  unfold left phi
  grind
theorem phi_scale (a b c k : Rat) (v : Pt) : phi (k * a) (k * b) (k * c) v = k * phi a b c v := by
  unfold phi
  grind
theorem phi_add (a b c d : Rat) (v : Pt) : phi a b (c + d) v = phi a b c v + d := by
  unfold phi
  grind
theorem r_pos_cases {a b : Rat} (h : 0 < a * b) : (a < 0 ∧ b < 0) ∨ (0 < a ∧ 0 < b) := by
  by_cases ha : 0 < a
  · exact .inr ⟨ha, r_pos_neg ha h⟩
  · have : a ≠ 0 := fun z => by rw [z, Rat.zero_mul] at h; exact absurd h (by decide)
    exact .inl ⟨by grind, r_pos_of_neg (by grind) h⟩
theorem left_fun (a b : Pt) : ∃ x y z, ∀ v, phi x y z v = left a b v := ⟨_, _, _, fun v => (left_phi a b v).symm⟩
theorem sep_ex {l k : Pt × Pt} (h : ∀ v, onLine l v = true → onLine k v = true → False) : ∃ a b c, phi a b c l.1 ≤ 0 ∧ phi a b c l.2 ≤ 0 ∧ 0 < phi a b c k.1 ∧ 0 < phi a b c k.2 := by
  by_cases x1 : min l.1.x l.2.x ≤ max k.1.x k.2.x
  · by_cases x2 : min k.1.x k.2.x ≤ max l.1.x l.2.x
    · by_cases y1 : min l.1.y l.2.y ≤ max k.1.y k.2.y
      · by_cases y2 : min k.1.y k.2.y ≤ max l.1.y l.2.y
        · by_cases s1 : left k.1 k.2 l.1 * left k.1 k.2 l.2 ≤ 0
          · by_cases s2 : left l.1 l.2 k.1 * left l.1 l.2 k.2 ≤ 0
            · obtain ⟨v, v1, v2⟩ := common_pt (a := l) (b := k) ⟨x1, x2⟩ ⟨y1, y2⟩ s1 s2
              exact absurd (h v v1 v2) id
            · have z1 : left l.1 l.2 l.1 = 0 := by unfold left; grind
              have z2 : left l.1 l.2 l.2 = 0 := by unfold left; grind
              rcases r_pos_cases (show 0 < left l.1 l.2 k.1 * left l.1 l.2 k.2 by grind) with ⟨c1, c2⟩ | ⟨c1, c2⟩
              · obtain ⟨x, y, z, f⟩ := left_fun l.1 l.2
                refine ⟨-1 * x, -1 * y, -1 * z, ?_, ?_, ?_, ?_⟩ <;> rw [phi_scale, f] <;> grind
              · obtain ⟨x, y, z, f⟩ := left_fun l.1 l.2
                refine ⟨x, y, z, ?_, ?_, ?_, ?_⟩ <;> rw [f] <;> grind
          · have z1 : left k.1 k.2 k.1 = 0 := by unfold left; grind
            have z2 : left k.1 k.2 k.2 = 0 := by unfold left; grind
            rcases r_pos_cases (show 0 < left k.1 k.2 l.1 * left k.1 k.2 l.2 by grind) with ⟨c1, c2⟩ | ⟨c1, c2⟩
            · obtain ⟨x, y, z, f⟩ := left_fun k.1 k.2
              refine ⟨x, y, z + (- max (left k.1 k.2 l.1) (left k.1 k.2 l.2)), ?_, ?_, ?_, ?_⟩ <;> rw [phi_add, f] <;> grind
            · obtain ⟨x, y, z, f⟩ := left_fun k.1 k.2
              refine ⟨-1 * x, -1 * y, -1 * z + min (left k.1 k.2 l.1) (left k.1 k.2 l.2), ?_, ?_, ?_, ?_⟩ <;> rw [phi_add, phi_scale, f] <;> grind
        · exact ⟨0, 1, - max l.1.y l.2.y, by unfold phi; grind, by unfold phi; grind, by unfold phi; grind, by unfold phi; grind⟩
      · exact ⟨0, -1, min l.1.y l.2.y, by unfold phi; grind, by unfold phi; grind, by unfold phi; grind, by unfold phi; grind⟩
    · exact ⟨1, 0, - max l.1.x l.2.x, by unfold phi; grind, by unfold phi; grind, by unfold phi; grind, by unfold phi; grind⟩
  · exact ⟨-1, 0, min l.1.x l.2.x, by unfold phi; grind, by unfold phi; grind, by unfold phi; grind, by unfold phi; grind⟩
end Rm

set_option Elab.async false
set_option linter.all false
namespace Rm
open Eh
/-! ### beside one line, close to it -/
structure Off (w : Rat → Pt) (T : Pt) (dx dy : Rat) : Prop where
  x : ∀ e, (w e).x = T.x + e * dx
  y : ∀ e, (w e).y = T.y + e * dy
theorem Off.phi {w : Rat → Pt} {T : Pt} {dx dy : Rat} (h : Off w T dx dy) (a b c e : Rat) : Rm.phi a b c (w e) = Rm.phi a b c T + e * (a * dx + b * dy) := by
  unfold Rm.phi
  rw [h.x, h.y]
  grind
theorem Off.left {w : Rat → Pt} {T : Pt} {dx dy : Rat} (h : Off w T dx dy) (p q : Pt) (e : Rat) : left p q (w e) = left p q T + e * ((q.x - p.x) * dy - (q.y - p.y) * dx) := by
  unfold Eh.left
  rw [h.x, h.y]
  grind
theorem Off.small {w : Rat → Pt} {T : Pt} {dx dy : Rat} (h : Off w T dx dy) {a b c : Rat} (p : 0 < Rm.phi a b c T) : Small (fun e => 0 < Rm.phi a b c (w e)) := by
  refine (small_pos (Rm.phi a b c T) (a * dx + b * dy) 0 p).imp fun e e0 q => ?_
  rw [h.phi]
  grind
theorem apart_side {l : Pt × Pt} {p m : Pt} {t : Rat} (h1 : 0 < t * left l.1 l.2 p) (h2 : 0 < t * left l.1 l.2 m) : Apart l p m := by
  obtain ⟨x, y, z, f⟩ := left_fun l.1 l.2
  have z1 : left l.1 l.2 l.1 = 0 := by unfold left; grind
  have z2 : left l.1 l.2 l.2 = 0 := by unfold left; grind
  refine sep_apart (a := t * x) (b := t * y) (c := t * z) ?_ ?_ ?_ ?_ <;> rw [phi_scale, f]
  · rw [z1, Rat.mul_zero]; exact Rat.le_refl
  · rw [z2, Rat.mul_zero]; exact Rat.le_refl
  · exact h1
  · exact h2
theorem same_apart {a b p m : Pt} (h : 0 < left a b p * left a b m) : Apart (a, b) p m := by
  rcases r_pos_cases h with ⟨c1, c2⟩ | ⟨c1, c2⟩
  · exact apart_side (l := (a, b)) (t := -1) (by show 0 < -1 * left a b p; grind) (by show 0 < -1 * left a b m; grind)
  · exact apart_side (l := (a, b)) (t := 1) (by show 0 < 1 * left a b p; grind) (by show 0 < 1 * left a b m; grind)
theorem line_succ (r : Room) (i : Nat) : r.line (i % r.n + 1) = r.line (i + 1) := by
  rw [← line_mod r (i % r.n + 1), ← line_mod r (i + 1), Nat.mod_add_mod]
theorem bend_all {r : Room} (G : Good r) (i : Nat) : alongside (r.line i) (r.line (i + 1)) = false := by
  have n0 : 0 < r.n := by have := G.n3; omega
  have := G.bend (i % r.n) (Nat.mod_lt _ n0)
  rw [line_succ, line_mod] at this
  exact this
theorem cases_j {n i j : Nat} (hn : 3 ≤ n) (hi : i < n) (hj : j < n) (h1 : j ≠ (i + 1) % n) (h2 : j ≠ i) (h3 : j ≠ (i + 2) % n) : neighbours n ((i + 1) % n) j = false := by
  unfold neighbours
  rw [Bool.or_eq_false_iff, Bool.or_eq_false_iff, beq_eq_false_iff_ne, beq_eq_false_iff_ne, beq_eq_false_iff_ne]
  refine ⟨fun z => h1 z.symm, fun z => h3 ?_, fun z => ?_⟩
  · rw [Nat.mod_add_mod] at z
    exact z.symm
  · by_cases a : i + 1 < n
    · rw [Nat.mod_eq_of_lt a] at z
      by_cases b : j + 1 < n
      · rw [Nat.mod_eq_of_lt b] at z
        omega
      · rw [show j + 1 = n by omega, Nat.mod_self] at z
        omega
    · rw [show i + 1 = n by omega, Nat.mod_self] at z
      by_cases b : j + 1 < n
      · rw [Nat.mod_eq_of_lt b] at z
        omega
      · omega
theorem phi_on_pos {a b c : Rat} {l : Pt × Pt} {v : Pt} (h1 : 0 < phi a b c l.1) (h2 : 0 < phi a b c l.2) (h : onLine l v = true) : 0 < phi a b c v := by
  obtain ⟨u, u0, u1, ex, ey⟩ := on_param h
  have e : phi a b c v = phi a b c l.1 + u * (phi a b c l.2 - phi a b c l.1) := by
    unfold phi
    rw [ex, ey]
    grind
  rw [e]
  exact mix_pos u0 u1 h1 h2
theorem edge_near {r : Room} (G : Good r) {i : Nat} (hi : i < r.n) {w1 w2 : Rat → Pt} {T1 T2 : Pt} {x1 y1 x2 y2 : Rat} (o1 : Off w1 T1 x1 y1) (o2 : Off w2 T2 x2 y2) (on1 : onLine (r.line (i + 1)) T1 = true) (on2 : onLine (r.line (i + 1)) T2 = true)
    (hp : Small (fun e => Apart (r.line i) (w1 e) (w2 e))) (hn : Small (fun e => Apart (r.line (i + 2)) (w1 e) (w2 e))) :
    Small (fun e => ∀ j, j < r.n → j ≠ (i + 1) % r.n → Apart (r.line j) (w1 e) (w2 e)) := by
  refine Small.all r.n fun j hj => ?_
  by_cases q1 : j = (i + 1) % r.n
  · exact Small.of fun e _ z => absurd q1 z
  · by_cases q2 : j = i
    · rw [q2]
      exact hp.imp fun e _ z _ => z
    · by_cases q3 : j = (i + 2) % r.n
      · rw [q3, line_mod]
        exact hn.imp fun e _ z _ => z
      · have nb := cases_j G.n3 hi hj q1 q2 q3
        have n0 : 0 < r.n := by have := G.n3; omega
        obtain ⟨a, b, c, s1, s2, s3, s4⟩ := sep_ex (l := r.line j) (k := r.line (i + 1)) (fun v v1 v2 => far_lines G (Nat.mod_lt (i + 1) n0) hj nb (by rw [line_mod]; exact v2) v1)
        refine ((o1.small (phi_on_pos s3 s4 on1)).and (o2.small (phi_on_pos s3 s4 on2))).imp fun e _ ⟨k1, k2⟩ _ => sep_apart s1 s2 k1 k2
theorem near_same {r : Room} {k : Nat} {p m : Pt} (ap : ∀ j, j < r.n → j ≠ k → Apart (r.line j) p m) (he : 0 < left (r.line k).1 (r.line k).2 p * left (r.line k).1 (r.line k).2 m) : r.within m = r.within p := by
  refine within_stay fun l hl => ?_
  obtain ⟨j, hj, rfl⟩ := mem_lines.mp hl
  by_cases q : j = k
  · rw [q]
    exact same_apart (a := (r.line k).1) (b := (r.line k).2) he
  · exact ap j hj q
/-! ### the corners -/
def tau (r : Room) (i : Nat) : Rat := left (r.corner i).at_ (r.corner (i + 1)).at_ (r.corner (i + 2)).at_
theorem tau_ne {r : Room} (G : Good r) (i : Nat) : tau r i ≠ 0 := by
  have b := bend_all G i
  unfold alongside at b
  rw [beq_eq_false_iff_ne] at b
  intro z
  refine b ?_
  unfold tau left at z
  show ((r.corner (i + 1)).at_.x - (r.corner i).at_.x) * ((r.corner (i + 2)).at_.y - (r.corner (i + 1)).at_.y) - ((r.corner (i + 1)).at_.y - (r.corner i).at_.y) * ((r.corner (i + 2)).at_.x - (r.corner (i + 1)).at_.x) = 0
  rw [← z]
  grind
theorem sq_tau {r : Room} (G : Good r) (i : Nat) : 0 < tau r i * tau r i := by
  have := tau_ne G i
  rcases Rat.le_total (a := 0) (b := tau r i) with q | q
  · exact Rat.mul_pos (by grind) (by grind)
  · exact r_neg_neg (by grind) (by grind)
/-- a point close to corner i + 1, between its two lines -/
def nud (r : Room) (i : Nat) (e : Rat) : Pt := ⟨(r.corner (i + 1)).at_.x + e * ((r.corner i).at_.x + (r.corner (i + 2)).at_.x - 2 * (r.corner (i + 1)).at_.x), (r.corner (i + 1)).at_.y + e * ((r.corner i).at_.y + (r.corner (i + 2)).at_.y - 2 * (r.corner (i + 1)).at_.y), 0⟩
theorem nud_off (r : Room) (i : Nat) : Off (nud r i) (r.corner (i + 1)).at_ ((r.corner i).at_.x + (r.corner (i + 2)).at_.x - 2 * (r.corner (i + 1)).at_.x) ((r.corner i).at_.y + (r.corner (i + 2)).at_.y - 2 * (r.corner (i + 1)).at_.y) := ⟨fun _ => rfl, fun _ => rfl⟩
theorem nud_prev (r : Room) (i : Nat) (e : Rat) : left (r.line i).1 (r.line i).2 (nud r i e) = e * tau r i := by
  rw [(nud_off r i).left]
  show left (r.corner i).at_ (r.corner (i + 1)).at_ (r.corner (i + 1)).at_ + e * (((r.corner (i + 1)).at_.x - (r.corner i).at_.x) * _ - ((r.corner (i + 1)).at_.y - (r.corner i).at_.y) * _) = _
  unfold tau left
  grind
theorem nud_next (r : Room) (i : Nat) (e : Rat) : left (r.line (i + 1)).1 (r.line (i + 1)).2 (nud r i e) = e * tau r i := by
  rw [(nud_off r i).left]
  show left (r.corner (i + 1)).at_ (r.corner (i + 2)).at_ (r.corner (i + 1)).at_ + e * (((r.corner (i + 2)).at_.x - (r.corner (i + 1)).at_.x) * _ - ((r.corner (i + 2)).at_.y - (r.corner (i + 1)).at_.y) * _) = _
  unfold tau left
  grind
/-- seen from the next line -/
theorem left_far (r : Room) (i : Nat) : left (r.line (i + 2)).1 (r.line (i + 2)).2 (r.corner (i + 1)).at_ = tau r (i + 1) := by
  show left (r.corner (i + 2)).at_ (r.corner (i + 3)).at_ (r.corner (i + 1)).at_ = left (r.corner (i + 1)).at_ (r.corner (i + 2)).at_ (r.corner (i + 3)).at_
  unfold left
  grind
theorem left_far0 (r : Room) (i : Nat) : left (r.line i).1 (r.line i).2 (r.corner (i + 2)).at_ = tau r i := rfl
theorem Off.side {w : Rat → Pt} {T : Pt} {dx dy : Rat} (h : Off w T dx dy) {p q : Pt} {t : Rat} (k : 0 < t * Eh.left p q T) : Small (fun e => 0 < t * Eh.left p q (w e)) := by
  refine (small_pos (t * Eh.left p q T) (t * ((q.x - p.x) * dy - (q.y - p.y) * dx)) 0 k).imp fun e e0 z => ?_
  rw [h.left]
  grind
end Rm

set_option Elab.async false
set_option linter.all false
namespace Rm
open Eh
theorem mul_lt0 {a b : Rat} (h : (a < 0 ∧ 0 < b) ∨ (0 < a ∧ b < 0)) : a * b < 0 := by
  rcases h with ⟨x, y⟩ | ⟨x, y⟩
  · exact r_neg_pos x y
  · have := r_neg_pos y x
    grind
/-- two numbers with a small change keep their signs -/
theorem keep_neg {x y K : Rat} (h : x * y < 0) : Small (fun e => (x + e * K) * (y + e * K) < 0) := by
  rcases r_neg_cases h with ⟨a, b⟩ | ⟨a, b⟩
  · refine ((small_pos (-x) (-K) 0 (by grind)).and (small_pos y K 0 b)).imp fun e e0 ⟨k1, k2⟩ => ?_
    exact mul_lt0 (.inl ⟨by grind, by grind⟩)
  · refine ((small_pos x K 0 a).and (small_pos (-y) (-K) 0 (by grind))).imp fun e e0 ⟨k1, k2⟩ => ?_
    exact mul_lt0 (.inr ⟨by grind, by grind⟩)
theorem sq_times {e a : Rat} (h : 0 < e) (ha : a < 0) : e * e * a < 0 := by
  have := Rat.mul_pos (Rat.mul_pos h h) (show 0 < -a by grind)
  grind
theorem sq_times' {e a : Rat} (h : 0 < e) (ha : 0 < a) : 0 < e * e * a := Rat.mul_pos (Rat.mul_pos h h) ha
/-- from one corner along a line to the next -/
theorem edge_step {r : Room} (G : Good r) {i : Nat} (hi : i < r.n) : Small (fun e => r.within (nud r (i + 1) e) = (r.within (nud r i e) ^^ decide (tau r i * tau r (i + 1) < 0))) := by
  have n0 : 0 < r.n := by have := G.n3; omega
  have hk : (i + 1) % r.n < r.n := Nat.mod_lt _ n0
  have hA := sq_tau G i
  have hB := sq_tau G (i + 1)
  have hp : Small (fun e => Apart (r.line i) (nud r i e) (nud r (i + 1) e)) := by
    refine ((nud_off r (i + 1)).side (p := (r.line i).1) (q := (r.line i).2) (t := tau r i) (by rw [left_far0]; exact hA)).imp fun e e0 k => ?_
    refine apart_side (t := tau r i) ?_ k
    rw [nud_prev]
    have := Rat.mul_pos e0 hA
    grind
  have hn : Small (fun e => Apart (r.line (i + 2)) (nud r i e) (nud r (i + 1) e)) := by
    refine ((nud_off r i).side (p := (r.line (i + 2)).1) (q := (r.line (i + 2)).2) (t := tau r (i + 1)) (by rw [left_far]; exact hB)).imp fun e e0 k => ?_
    refine apart_side (t := tau r (i + 1)) k ?_
    rw [nud_next r (i + 1)]
    have := Rat.mul_pos e0 hB
    grind
  have near := edge_near G hi (nud_off r i) (nud_off r (i + 1)) (start_on (r.line (i + 1))) (end_on (r.line (i + 1))) hp hn
  have l1 : ∀ e, left (r.line (i + 1)).1 (r.line (i + 1)).2 (nud r i e) = e * tau r i := nud_next r i
  have l2 : ∀ e, left (r.line (i + 1)).1 (r.line (i + 1)).2 (nud r (i + 1) e) = e * tau r (i + 1) := nud_prev r (i + 1)
  by_cases c : tau r i * tau r (i + 1) < 0
  · have K1 : ∃ K : Rat, ∀ e, left (nud r i e) (nud r (i + 1) e) (r.line (i + 1)).1 = -(e * (tau r i + e * K)) ∧ left (nud r i e) (nud r (i + 1) e) (r.line (i + 1)).2 = -(e * (tau r (i + 1) + e * K)) := by
      refine ⟨((r.corner (i + 1)).at_.x + (r.corner (i + 3)).at_.x - 2 * (r.corner (i + 2)).at_.x) * ((r.corner i).at_.y + (r.corner (i + 2)).at_.y - 2 * (r.corner (i + 1)).at_.y) - ((r.corner (i + 1)).at_.y + (r.corner (i + 3)).at_.y - 2 * (r.corner (i + 2)).at_.y) * ((r.corner i).at_.x + (r.corner (i + 2)).at_.x - 2 * (r.corner (i + 1)).at_.x), fun e => ⟨?_, ?_⟩⟩
      · show left (nud r i e) (nud r (i + 1) e) (r.corner (i + 1)).at_ = _
        unfold left nud tau left
        dsimp only
        grind
      · show left (nud r i e) (nud r (i + 1) e) (r.corner (i + 2)).at_ = _
        unfold left nud tau left
        dsimp only
        grind
    obtain ⟨K, hK⟩ := K1
    refine (near.and (keep_neg (K := K) c)).imp fun e e0 ⟨ap, k⟩ => ?_
    rw [decide_eq_true c, Bool.xor_true]
    refine within_flip hk ?_ ap
    rw [line_mod]
    refine ⟨?_, ?_⟩
    · rw [l1, l2]
      have := sq_times e0 c
      grind
    · rw [(hK e).1, (hK e).2]
      have := sq_times e0 k
      grind
  · have c' : 0 < tau r i * tau r (i + 1) := by
      have a := tau_ne G i
      have b := tau_ne G (i + 1)
      refine Rat.not_le.mp fun z => ?_
      have : tau r i * tau r (i + 1) = 0 := by grind
      rcases Rat.mul_eq_zero.mp this with q | q
      · exact a q
      · exact b q
    refine near.imp fun e e0 ap => ?_
    rw [decide_eq_false c, Bool.xor_false]
    refine near_same ap ?_
    rw [line_mod, l1, l2]
    have := sq_times' e0 c'
    grind
/-- P looks at the place T in a line (not at an end): no other line is on the way -/
structure Beside (r : Room) (i : Nat) (T P : Pt) (u : Rat) : Prop where
  hi : i < r.n
  u0 : 0 < u
  u1 : u < 1
  tx : T.x = (r.line (i + 1)).1.x + u * ((r.line (i + 1)).2.x - (r.line (i + 1)).1.x)
  ty : T.y = (r.line (i + 1)).1.y + u * ((r.line (i + 1)).2.y - (r.line (i + 1)).1.y)
  ne : left (r.line (i + 1)).1 (r.line (i + 1)).2 P ≠ 0
  ap : ∀ j, j < r.n → j ≠ (i + 1) % r.n → Apart (r.line j) P T
def lam (r : Room) (i : Nat) (P : Pt) : Rat := left (r.line (i + 1)).1 (r.line (i + 1)).2 P
theorem way_off (T P : Pt) : Off (fun e => onWay T P e) T (P.x - T.x) (P.y - T.y) := ⟨fun _ => rfl, fun _ => rfl⟩
theorem Beside.lamT {r : Room} {i : Nat} {T P : Pt} {u : Rat} (B : Beside r i T P u) (e : Rat) : left (r.line (i + 1)).1 (r.line (i + 1)).2 (onWay T P e) = e * lam r i P := by
  rw [left_way]
  have z : left (r.line (i + 1)).1 (r.line (i + 1)).2 T = 0 := by
    unfold left
    rw [B.tx, B.ty]
    grind
  rw [z]
  unfold lam
  grind
theorem Beside.close {r : Room} {i : Nat} {T P : Pt} {u : Rat} (B : Beside r i T P u) {e : Rat} (e0 : 0 < e) (e1 : e ≤ 1) : r.within (onWay T P e) = r.within P := by
  have eq : onWay T P e = onWay P T (1 - e) := (way_back T P e).symm
  refine near_same (k := (i + 1) % r.n) (fun j hj q => ?_) ?_
  · rw [eq]
    exact (B.ap j hj q).part (by grind) (by grind)
  · rw [line_mod, B.lamT]
    have ne := B.ne
    have s : 0 < lam r i P * lam r i P := by
      have ne : lam r i P ≠ 0 := ne
      rcases Rat.le_total (a := 0) (b := lam r i P) with q | q
      · exact Rat.mul_pos (by grind) (by grind)
      · exact r_neg_neg (by grind) (by grind)
    have := Rat.mul_pos e0 s
    unfold lam at this ⊢
    grind
theorem beside_near {r : Room} (G : Good r) {i : Nat} {T P : Pt} {u : Rat} (B : Beside r i T P u) : Small (fun e => r.within P = (r.within (nud r i e) ^^ decide (tau r i * lam r i P < 0))) := by
  have n0 : 0 < r.n := by have := G.n3; omega
  have hk : (i + 1) % r.n < r.n := Nat.mod_lt _ n0
  have hA := sq_tau G i
  have hB := sq_tau G (i + 1)
  have u0 := B.u0
  have u1 := B.u1
  have hp : Small (fun e => Apart (r.line i) (nud r i e) (onWay T P e)) := by
    have k0 : left (r.line i).1 (r.line i).2 T = u * tau r i := by
      have tx : T.x = (r.corner (i + 1)).at_.x + u * ((r.corner (i + 2)).at_.x - (r.corner (i + 1)).at_.x) := B.tx
      have ty : T.y = (r.corner (i + 1)).at_.y + u * ((r.corner (i + 2)).at_.y - (r.corner (i + 1)).at_.y) := B.ty
      show left (r.corner i).at_ (r.corner (i + 1)).at_ T = _
      unfold tau left
      rw [tx, ty]
      grind
    refine ((way_off T P).side (p := (r.line i).1) (q := (r.line i).2) (t := tau r i) (by
      rw [k0]
      have := Rat.mul_pos u0 hA
      grind)).imp fun e e0 k => ?_
    refine apart_side (t := tau r i) ?_ k
    rw [nud_prev]
    have := Rat.mul_pos e0 hA
    grind
  have hn : Small (fun e => Apart (r.line (i + 2)) (nud r i e) (onWay T P e)) := by
    have k0 : left (r.line (i + 2)).1 (r.line (i + 2)).2 T = (1 - u) * tau r (i + 1) := by
      have tx : T.x = (r.corner (i + 1)).at_.x + u * ((r.corner (i + 2)).at_.x - (r.corner (i + 1)).at_.x) := B.tx
      have ty : T.y = (r.corner (i + 1)).at_.y + u * ((r.corner (i + 2)).at_.y - (r.corner (i + 1)).at_.y) := B.ty
      show left (r.corner (i + 2)).at_ (r.corner (i + 3)).at_ T = (1 - u) * left (r.corner (i + 1)).at_ (r.corner (i + 2)).at_ (r.corner (i + 3)).at_
      unfold left
      rw [tx, ty]
      grind
    refine (((nud_off r i).side (p := (r.line (i + 2)).1) (q := (r.line (i + 2)).2) (t := tau r (i + 1)) (by rw [left_far]; exact hB)).and
      ((way_off T P).side (p := (r.line (i + 2)).1) (q := (r.line (i + 2)).2) (t := tau r (i + 1)) (by
        rw [k0]
        have := Rat.mul_pos (show 0 < 1 - u by grind) hB
        grind))).imp fun e e0 ⟨k1, k2⟩ => ?_
    exact apart_side (t := tau r (i + 1)) k1 k2
  have near := edge_near G B.hi (nud_off r i) (way_off T P) (start_on (r.line (i + 1))) (param_on (by grind) (by grind) B.tx B.ty) hp hn
  have l1 : ∀ e, left (r.line (i + 1)).1 (r.line (i + 1)).2 (nud r i e) = e * tau r i := nud_next r i
  have lne : lam r i P ≠ 0 := B.ne
  have one : Small (fun e => e < 1) := Small.lt (by decide)
  by_cases c : tau r i * lam r i P < 0
  · have K1 : ∃ K : Rat, ∀ e, left (nud r i e) (onWay T P e) (r.line (i + 1)).1 = -(e * (u * tau r i + e * K)) ∧ left (nud r i e) (onWay T P e) (r.line (i + 1)).2 = -(e * (lam r i P - (1 - u) * tau r i + e * K)) := by
      have tx : T.x = (r.corner (i + 1)).at_.x + u * ((r.corner (i + 2)).at_.x - (r.corner (i + 1)).at_.x) := B.tx
      have ty : T.y = (r.corner (i + 1)).at_.y + u * ((r.corner (i + 2)).at_.y - (r.corner (i + 1)).at_.y) := B.ty
      refine ⟨(P.x - T.x) * ((r.corner i).at_.y + (r.corner (i + 2)).at_.y - 2 * (r.corner (i + 1)).at_.y) - (P.y - T.y) * ((r.corner i).at_.x + (r.corner (i + 2)).at_.x - 2 * (r.corner (i + 1)).at_.x), fun e => ⟨?_, ?_⟩⟩
      · show left (nud r i e) (onWay T P e) (r.corner (i + 1)).at_ = _
        unfold left nud onWay tau left
        dsimp only
        rw [tx, ty]
        grind
      · show left (nud r i e) (onWay T P e) (r.corner (i + 2)).at_ = -(e * (left (r.corner (i + 1)).at_ (r.corner (i + 2)).at_ P - (1 - u) * tau r i + e * _))
        unfold left nud onWay tau left
        dsimp only
        rw [tx, ty]
        grind
    obtain ⟨K, hK⟩ := K1
    have c2 : (u * tau r i) * (lam r i P - (1 - u) * tau r i) < 0 := by
      have m1 := Rat.mul_pos u0 (show 0 < -(tau r i * lam r i P) by grind)
      have m2 := Rat.mul_pos (Rat.mul_pos u0 (show 0 < 1 - u by grind)) hA
      grind
    refine ((near.and (keep_neg (K := K) c2)).and one).imp fun e e0 ⟨⟨ap, k⟩, e1⟩ => ?_
    rw [decide_eq_true c, Bool.xor_true, ← B.close e0 (Rat.le_of_lt e1)]
    refine within_flip hk ?_ ap
    rw [line_mod]
    refine ⟨?_, ?_⟩
    · rw [l1, B.lamT]
      have := sq_times e0 c
      grind
    · rw [(hK e).1, (hK e).2]
      have := sq_times e0 k
      grind
  · have c' : 0 < tau r i * lam r i P := by
      have a := tau_ne G i
      refine Rat.not_le.mp fun z => ?_
      have : tau r i * lam r i P = 0 := by grind
      rcases Rat.mul_eq_zero.mp this with q | q
      · exact a q
      · exact lne q
    refine (near.and one).imp fun e e0 ⟨ap, e1⟩ => ?_
    rw [decide_eq_false c, Bool.xor_false, ← B.close e0 (Rat.le_of_lt e1)]
    refine near_same ap ?_
    rw [line_mod, l1, B.lamT]
    have := sq_times' e0 c'
    grind
/-- all round the room the same side is within -/
theorem round_same {r : Room} (G : Good r) : Small (fun e => ∀ i, i < r.n → (r.within (nud r i e) ^^ decide (tau r i < 0)) = (r.within (nud r 0 e) ^^ decide (tau r 0 < 0))) := by
  refine (Small.all r.n fun i hi => edge_step G hi).imp fun e e0 h => ?_
  intro i
  induction i with
  | zero => exact fun _ => rfl
  | succ i ih =>
    intro hi
    rw [← ih (by omega), h i (by omega)]
    have a := tau_ne G i
    have b := tau_ne G (i + 1)
    have e1 : decide (tau r i * tau r (i + 1) < 0) = (decide (tau r i < 0) ^^ decide (tau r (i + 1) < 0)) := by
      rcases Rat.le_total (a := 0) (b := tau r i) with q | q
      · rcases Rat.le_total (a := 0) (b := tau r (i + 1)) with p | p
        · have := Rat.mul_nonneg q p
          rw [decide_eq_false (by grind), decide_eq_false (by grind), decide_eq_false (by grind)]
          rfl
        · rw [decide_eq_true (mul_lt0 (.inr ⟨by grind, by grind⟩)), decide_eq_false (by grind), decide_eq_true (by grind)]
          rfl
      · rcases Rat.le_total (a := 0) (b := tau r (i + 1)) with p | p
        · rw [decide_eq_true (mul_lt0 (.inl ⟨by grind, by grind⟩)), decide_eq_true (by grind), decide_eq_false (by grind)]
          rfl
        · have := r_neg_neg (show tau r i < 0 by grind) (show tau r (i + 1) < 0 by grind)
          rw [decide_eq_false (by grind), decide_eq_true (by grind), decide_eq_true (by grind)]
          rfl
    rw [e1]
    cases r.within (nud r i e) <;> cases decide (tau r i < 0) <;> cases decide (tau r (i + 1) < 0) <;> rfl
theorem dec_mul {a b : Rat} (ha : a ≠ 0) (hb : b ≠ 0) : decide (a * b < 0) = (decide (a < 0) ^^ decide (b < 0)) := by
  rcases Rat.le_total (a := 0) (b := a) with q | q
  · rcases Rat.le_total (a := 0) (b := b) with p | p
    · have := Rat.mul_nonneg q p
      rw [decide_eq_false (by grind), decide_eq_false (by grind), decide_eq_false (by grind)]
      rfl
    · rw [decide_eq_true (mul_lt0 (.inr ⟨by grind, by grind⟩)), decide_eq_false (by grind), decide_eq_true (by grind)]
      rfl
  · rcases Rat.le_total (a := 0) (b := b) with p | p
    · rw [decide_eq_true (mul_lt0 (.inl ⟨by grind, by grind⟩)), decide_eq_true (by grind), decide_eq_false (by grind)]
      rfl
    · have := r_neg_neg (show a < 0 by grind) (show b < 0 by grind)
      rw [decide_eq_false (by grind), decide_eq_true (by grind), decide_eq_true (by grind)]
      rfl
/-- whoever looks at whichever line: the same side is within -/
theorem beside_two {r : Room} (G : Good r) {i j : Nat} {T P T' P' : Pt} {u u' : Rat} (B : Beside r i T P u) (B' : Beside r j T' P' u') : (r.within P ^^ decide (lam r i P < 0)) = (r.within P' ^^ decide (lam r j P' < 0)) := by
  obtain ⟨e, e0, ⟨h1, h2⟩, h3⟩ := (((beside_near G B).and (beside_near G B')).and (round_same G)).ex
  have k := (h3 i B.hi).trans (h3 j B'.hi).symm
  rw [dec_mul (b := lam r i P) (tau_ne G i) B.ne] at h1
  rw [dec_mul (b := lam r j P') (tau_ne G j) B'.ne] at h2
  rw [h1, h2]
  revert k
  generalize r.within (nud r i e) = x1
  generalize r.within (nud r j e) = x2
  generalize decide (tau r i < 0) = x3
  generalize decide (tau r j < 0) = x4
  show _ → ((x1 ^^ (x3 ^^ decide (lam r i P < 0))) ^^ decide (lam r i P < 0)) = ((x2 ^^ (x4 ^^ decide (lam r j P' < 0))) ^^ decide (lam r j P' < 0))
  generalize decide (lam r i P < 0) = x5
  generalize decide (lam r j P' < 0) = x6
  cases x1 <;> cases x2 <;> cases x3 <;> cases x4 <;> cases x5 <;> cases x6 <;> simp
end Rm

set_option Elab.async false
set_option linter.all false
namespace Rm
open Eh
/-! ### sums -/
def sumN : Nat → (Nat → Int) → Int
  | 0, _ => 0
  | n + 1, f => sumN n f + f n
theorem sumN_congr {f g : Nat → Int} : ∀ {n : Nat}, (∀ i, i < n → f i = g i) → sumN n f = sumN n g
  | 0, _ => rfl
  | n + 1, h => by
    show sumN n f + f n = sumN n g + g n
    rw [sumN_congr (n := n) fun i hi => h i (by omega), h n (by omega)]
theorem sumN_add (f g : Nat → Int) : ∀ n : Nat, sumN n (fun i => f i + g i) = sumN n f + sumN n g
  | 0 => rfl
  | n + 1 => by
    show sumN n (fun i => f i + g i) + (f n + g n) = (sumN n f + f n) + (sumN n g + g n)
    rw [sumN_add f g n]
    omega
theorem sumN_zero : ∀ n : Nat, sumN n (fun _ => 0) = 0
  | 0 => rfl
  | n + 1 => by
    show sumN n (fun _ => 0) + 0 = 0
    rw [sumN_zero n]
    rfl
theorem sumN_swap (f : Nat → Nat → Int) (m : Nat) : ∀ n : Nat, sumN n (fun i => sumN m (fun j => f i j)) = sumN m (fun j => sumN n (fun i => f i j))
  | 0 => (sumN_zero m).symm
  | n + 1 => by
    show sumN n (fun i => sumN m (fun j => f i j)) + sumN m (fun j => f n j) = sumN m (fun j => sumN n (fun i => f i j) + f n j)
    rw [sumN_swap f m n, sumN_add]
theorem sumN_nonneg {f : Nat → Int} : ∀ {n : Nat}, (∀ i, i < n → 0 ≤ f i) → 0 ≤ sumN n f
  | 0, _ => Int.le_refl _
  | n + 1, h => by
    have := sumN_nonneg (n := n) (f := f) fun i hi => h i (by omega)
    have := h n (by omega)
    show 0 ≤ sumN n f + f n
    omega
theorem sumN_mul (f : Nat → Int) (c : Int) : ∀ n : Nat, sumN n (fun i => c * f i) = c * sumN n f
  | 0 => (Int.mul_zero c).symm
  | n + 1 => by
    show sumN n (fun i => c * f i) + c * f n = c * (sumN n f + f n)
    rw [sumN_mul f c n, Int.mul_add]
theorem sumN_one (k : Nat) (a : Int) : ∀ n : Nat, sumN n (fun i => if i = k then a else 0) = if k < n then a else 0
  | 0 => by rw [if_neg (Nat.not_lt_zero _)]; rfl
  | n + 1 => by
    show sumN n (fun i => if i = k then a else 0) + (if n = k then a else 0) = _
    rw [sumN_one k a n]
    by_cases q : n = k
    · rw [if_neg (by omega), if_pos q, if_pos (by omega)]
      omega
    · rw [if_neg q]
      by_cases p : k < n
      · rw [if_pos p, if_pos (by omega)]
        omega
      · rw [if_neg p, if_neg (by omega)]
        rfl
/-- what telescopes -/
theorem sumN_tele (Q : Int → Int) {lo hi : Int} (h0 : 0 ≤ lo) (h1 : lo ≤ hi) : ∀ M : Nat, sumN M (fun k => if lo ≤ (k : Int) ∧ (k : Int) < hi then Q ((k : Int) + 1) - Q (k : Int) else 0) = Q (min (max (M : Int) lo) hi) - Q lo
  | 0 => by
    rw [show min (max ((0 : Nat) : Int) lo) hi = lo by omega]
    show (0 : Int) = _
    omega
  | M + 1 => by
    show sumN M _ + (if lo ≤ (M : Int) ∧ (M : Int) < hi then Q ((M : Int) + 1) - Q (M : Int) else 0) = _
    rw [sumN_tele Q h0 h1 M]
    by_cases q : lo ≤ (M : Int) ∧ (M : Int) < hi
    · rw [if_pos q, show min (max (M : Int) lo) hi = (M : Int) by omega, show min (max ((M + 1 : Nat) : Int) lo) hi = (M : Int) + 1 by omega]
      omega
    · rw [if_neg q]
      by_cases p : (M : Int) < lo
      · rw [show min (max (M : Int) lo) hi = lo by omega, show min (max ((M + 1 : Nat) : Int) lo) hi = lo by omega]
        omega
      · rw [show min (max (M : Int) lo) hi = hi by omega, show min (max ((M + 1 : Nat) : Int) lo) hi = hi by omega]
        omega
theorem sum_range (f : Nat → Int) : ∀ n : Nat, ((List.range n).map f).sum = sumN n f
  | 0 => rfl
  | n + 1 => by
    rw [List.range_succ, List.map_append, List.sum_append, sum_range f n]
    simp [sumN]
theorem sumN_round (f : Nat → Int) : ∀ n : Nat, sumN n (fun i => f (i + 1) - f i) = f n - f 0
  | 0 => by show (0 : Int) = _; omega
  | n + 1 => by
    show sumN n (fun i => f (i + 1) - f i) + (f (n + 1) - f n) = _
    rw [sumN_round f n]
    omega
/-! ### a line over a column -/
def slope (l : Ln) : Int := if l.dy = 0 then 0 else if l.dx = l.dy then 1 else -1
def spans (l : Ln) (k : Int) : Prop := min l.x0 l.x1 ≤ k ∧ k < max l.x0 l.x1
instance (l : Ln) (k : Int) : Decidable (spans l k) := inferInstanceAs (Decidable (_ ∧ _))
def sgn (l : Ln) : Int := if l.x0 < l.x1 then 1 else -1
/-- twice the height over the column's middle -/
def h2 (l : Ln) (k : Int) : Int := 2 * l.y0 + slope l * (2 * k + 1 - 2 * l.x0)
theorem slope_eq {l : Ln} (h : hasDir l = true) (hx : l.dx ≠ 0) : l.dy = slope l * l.dx := by
  unfold slope
  rcases hasDir_cases h with ⟨a, b⟩ | ⟨a, b⟩ | ⟨a, b⟩ | ⟨a, b⟩
  · rw [if_pos a, a, Int.zero_mul]
  · exact absurd a hx
  · rw [if_neg (by omega), if_pos a, Int.one_mul, a]
  · rw [if_neg (by omega), if_neg (by omega)]
    omega
theorem slope_cases (l : Ln) : slope l = 0 ∨ slope l = 1 ∨ slope l = -1 := by
  unfold slope
  by_cases a : l.dy = 0
  · rw [if_pos a]; exact .inl rfl
  · rw [if_neg a]
    by_cases b : l.dx = l.dy
    · rw [if_pos b]; exact .inr (.inl rfl)
    · rw [if_neg b]; exact .inr (.inr rfl)
/-- the columns of one line -/
theorem cols {l : Ln} (h : hasDir l = true) {M : Nat} (b0 : 0 ≤ l.x0) (b1 : l.x0 ≤ M) (b2 : 0 ≤ l.x1) (b3 : l.x1 ≤ M) : sumN M (fun k => if spans l (k : Int) then sgn l * h2 l (k : Int) else 0) = l.dx * (l.y0 + l.y1) := by
  have key : ∀ k : Int, h2 l k = (2 * l.y0 * (k + 1 - l.x0) + slope l * ((k + 1 - l.x0) * (k + 1 - l.x0))) - (2 * l.y0 * (k - l.x0) + slope l * ((k - l.x0) * (k - l.x0))) := fun k => by
    unfold h2
    grind
  have e : sumN M (fun k => if spans l (k : Int) then sgn l * h2 l (k : Int) else 0) = sgn l * sumN M (fun k => if min l.x0 l.x1 ≤ (k : Int) ∧ (k : Int) < max l.x0 l.x1 then (fun t : Int => 2 * l.y0 * (t - l.x0) + slope l * ((t - l.x0) * (t - l.x0))) ((k : Int) + 1) - (fun t : Int => 2 * l.y0 * (t - l.x0) + slope l * ((t - l.x0) * (t - l.x0))) (k : Int) else 0) := by
    rw [← sumN_mul]
    refine sumN_congr fun k _ => ?_
    by_cases q : spans l (k : Int)
    · have q' : min l.x0 l.x1 ≤ (k : Int) ∧ (k : Int) < max l.x0 l.x1 := q
      rw [if_pos q, if_pos q', key]
    · have q' : ¬ (min l.x0 l.x1 ≤ (k : Int) ∧ (k : Int) < max l.x0 l.x1) := q
      rw [if_neg q, if_neg q', Int.mul_zero]
  rw [e, sumN_tele (fun t : Int => 2 * l.y0 * (t - l.x0) + slope l * ((t - l.x0) * (t - l.x0))) (by omega) (by omega), show min (max (M : Int) (min l.x0 l.x1)) (max l.x0 l.x1) = max l.x0 l.x1 by omega]
  by_cases z : l.dx = 0
  · have : l.x0 = l.x1 := by unfold Ln.dx at z; omega
    rw [this, Int.max_self, Int.min_self, Int.sub_self, Int.mul_zero, z, Int.zero_mul]
  · have s := slope_eq h z
    have s' : l.y1 = l.y0 + slope l * l.dx := by unfold Ln.dy at s; omega
    have dxe : l.dx = l.x1 - l.x0 := rfl
    unfold sgn
    by_cases c : l.x0 < l.x1
    · rw [if_pos c, Int.max_eq_right (by omega), Int.min_eq_left (by omega), s', dxe]
      grind
    · have : l.x1 < l.x0 := by omega
      rw [if_neg c, Int.max_eq_left (by omega), Int.min_eq_right (by omega), s', dxe]
      grind
/-- a column's rows of one line -/
theorem rows {h s : Int} {N : Nat} (h0 : 0 ≤ h) (h1 : h ≤ N) : sumN N (fun j => if (j : Int) < h then s else 0) = s * h := by
  have e : sumN N (fun j => if (j : Int) < h then s else 0) = s * sumN N (fun j => if 0 ≤ (j : Int) ∧ (j : Int) < h then (fun t : Int => t) ((j : Int) + 1) - (fun t : Int => t) (j : Int) else 0) := by
    rw [← sumN_mul]
    refine sumN_congr fun j _ => ?_
    by_cases q : (j : Int) < h
    · rw [if_pos q, if_pos ⟨by omega, q⟩]
      show s = s * ((j : Int) + 1 - (j : Int))
      rw [show (j : Int) + 1 - (j : Int) = 1 by omega, Int.mul_one]
    · rw [if_neg q, if_neg (fun z => q z.2), Int.mul_zero]
  rw [e, sumN_tele (fun t : Int => t) (Int.le_refl 0) h0, show min (max (N : Int) 0) h = h by omega]
  show s * (h - 0) = s * h
  rw [Int.sub_zero]
end Rm

set_option Elab.async false
set_option linter.all false
namespace Rm
open Eh
def spt (X Y : Int) : Pt := ⟨(X : Rat) / ((4 : Int) : Rat), (Y : Rat) / ((4 : Int) : Rat), 0⟩
theorem four (X : Int) : (X : Rat) / ((4 : Int) : Rat) * 4 = (X : Rat) := Rat.div_mul_cancel (by decide)
/-- over a column's middle a line has one place -/
theorem on_col {l : Ln} (h : hasDir l = true) {k : Int} {v : Pt} (hx : v.x = ((4 * k + 2 : Int) : Rat) / ((4 : Int) : Rat)) (on : onLine l.pts v = true) : spans l k ∧ v.y * 2 = ((h2 l k : Int) : Rat) := by
  unfold onLine between at on
  simp only [Bool.and_eq_true, decide_eq_true_eq, beq_iff_eq] at on
  obtain ⟨z, ⟨x1, x2⟩, _⟩ := on
  have x1 : min (l.x0 : Rat) (l.x1 : Rat) ≤ v.x := x1
  have x2 : v.x ≤ max (l.x0 : Rat) (l.x1 : Rat) := x2
  rw [min_cast, hx, le_frac (by decide)] at x1
  rw [max_cast, hx, frac_le (by decide)] at x2
  have sp : spans l k := ⟨by omega, by omega⟩
  refine ⟨sp, ?_⟩
  have dx0 : l.dx ≠ 0 := by
    unfold spans at sp
    unfold Ln.dx
    omega
  have s := slope_eq h dx0
  have s' : (l.dy : Rat) = (slope l : Rat) * (l.dx : Rat) := by rw [← Rat.intCast_mul, ← s]
  have dx0' : (l.dx : Rat) ≠ 0 := fun q => dx0 (Rat.intCast_inj.mp q)
  have f := four (4 * k + 2)
  rw [← hx] at f
  have zz : ((l.dx : Int) : Rat) * (v.y - (l.y0 : Rat)) - ((l.dy : Int) : Rat) * (v.x - (l.x0 : Rat)) = 0 := by
    have e1 : ((l.dx : Int) : Rat) = (l.x1 : Rat) - (l.x0 : Rat) := by unfold Ln.dx; rw [Rat.intCast_sub]
    have e2 : ((l.dy : Int) : Rat) = (l.y1 : Rat) - (l.y0 : Rat) := by unfold Ln.dy; rw [Rat.intCast_sub]
    rw [e1, e2]
    exact z
  rw [s'] at zz
  have : (l.dx : Rat) * (v.y - (l.y0 : Rat) - (slope l : Rat) * (v.x - (l.x0 : Rat))) = 0 := by grind
  have := mul_cancel0 dx0' this
  unfold h2
  rw [Rat.intCast_add, Rat.intCast_mul, Rat.intCast_mul, Rat.intCast_sub, Rat.intCast_mul, Rat.intCast_add, Rat.intCast_mul]
  rw [Rat.intCast_add, Rat.intCast_mul] at f
  have c2 : ((2 : Int) : Rat) = 2 := rfl
  have c1 : ((1 : Int) : Rat) = 1 := rfl
  have c4 : ((4 : Int) : Rat) = 4 := rfl
  rw [c2, c1]
  rw [c2, c4] at f
  grind
theorem col_on {l : Ln} (h : hasDir l = true) {k : Int} (sp : spans l k) : onLine l.pts (spt (4 * k + 2) (2 * h2 l k)) = true := by
  unfold spt
  rw [onLine_W l (by decide)]
  refine decide_eq_true ?_
  have dx0 : l.dx ≠ 0 := by
    unfold spans at sp
    unfold Ln.dx
    omega
  have s := slope_eq h dx0
  have y1 : l.y1 = l.y0 + slope l * l.dx := by unfold Ln.dy at s; omega
  refine ⟨?_, ?_, ?_⟩
  · rw [s]
    unfold h2
    grind
  · unfold spans at sp
    omega
  · unfold h2
    rw [y1]
    unfold spans at sp
    have dxe : l.dx = l.x1 - l.x0 := rfl
    rw [dxe]
    rcases slope_cases l with q | q | q <;> rw [q] <;> omega
theorem prev_ix {n i0 : Nat} (h0 : i0 < n) : ∃ i, i < n ∧ (i + 1) % n = i0 := by
  by_cases z : i0 = 0
  · exact ⟨n - 1, by omega, by rw [show n - 1 + 1 = n by omega, Nat.mod_self, z]⟩
  · exact ⟨i0 - 1, by omega, by rw [show i0 - 1 + 1 = i0 by omega, Nat.mod_eq_of_lt h0]⟩
theorem not_end {l : Ln} {k Y : Int} (h : isEnd l.pts (spt (4 * k + 2) Y) = true) : False := by
  unfold spt at h
  rw [isEnd_W l (by decide)] at h
  have := of_decide_eq_true h
  unfold endW at this
  omega
/-- on a piece of a column's middle -/
theorem way_col {k Y Y' : Int} (hY : Y ≤ Y') {s : Rat} (s0 : 0 ≤ s) (s1 : s ≤ 1) : (onWay (spt (4 * k + 2) Y) (spt (4 * k + 2) Y') s).x = ((4 * k + 2 : Int) : Rat) / ((4 : Int) : Rat) ∧ (Y : Rat) ≤ (onWay (spt (4 * k + 2) Y) (spt (4 * k + 2) Y') s).y * 4 ∧ (onWay (spt (4 * k + 2) Y) (spt (4 * k + 2) Y') s).y * 4 ≤ (Y' : Rat) := by
  unfold onWay spt
  dsimp only
  have f := four Y
  have f' := four Y'
  have g : (Y : Rat) ≤ (Y' : Rat) := Rat.intCast_le_intCast.mpr hY
  generalize (Y : Rat) / ((4 : Int) : Rat) = a at f
  generalize (Y' : Rat) / ((4 : Int) : Rat) = b at f'
  have m1 := Rat.mul_nonneg s0 (show 0 ≤ b - a by grind)
  have m2 := Rat.mul_nonneg (show 0 ≤ 1 - s by grind) (show 0 ≤ b - a by grind)
  refine ⟨by grind, by grind, by grind⟩
theorem col_height {l : Ln} (h : hasDir l = true) {k Y Y' : Int} (hY : Y ≤ Y') {s : Rat} (s0 : 0 ≤ s) (s1 : s ≤ 1) (on : onLine l.pts (onWay (spt (4 * k + 2) Y) (spt (4 * k + 2) Y') s) = true) : spans l k ∧ Y ≤ 2 * h2 l k ∧ 2 * h2 l k ≤ Y' := by
  obtain ⟨wx, w1, w2⟩ := way_col (k := k) hY s0 s1
  obtain ⟨sp, e⟩ := on_col h wx on
  have c : ((2 * h2 l k : Int) : Rat) = (onWay (spt (4 * k + 2) Y) (spt (4 * k + 2) Y') s).y * 4 := by
    rw [Rat.intCast_mul, ← e]
    have c2 : ((2 : Int) : Rat) = 2 := rfl
    rw [c2]
    grind
  exact ⟨sp, Rat.intCast_le_intCast.mp (by rw [c]; exact w1), Rat.intCast_le_intCast.mp (by rw [c]; exact w2)⟩
theorem line_dir {r : Room} (G : Good r) {i : Nat} (hi : i < r.n) : hasDir (lnOf r i) = true := good_dir G hi
theorem col_stay {r : Room} (G : Good r) {k j : Int} (no : ∀ i, i < r.n → ¬ (spans (lnOf r i) k ∧ h2 (lnOf r i) k = j + 1)) : r.within (spt (4 * k + 2) (2 * j + 3)) = r.within (spt (4 * k + 2) (2 * j + 1)) := by
  refine within_stay fun l hl => ?_
  obtain ⟨i, hi, rfl⟩ := mem_lines.mp hl
  intro s s0 s1
  cases e : onLine (r.line i) (onWay (spt (4 * k + 2) (2 * j + 1)) (spt (4 * k + 2) (2 * j + 3)) s) with
  | false => rfl
  | true =>
    rw [lnOf_pts] at e
    obtain ⟨sp, a, b⟩ := col_height (line_dir G hi) (by omega) s0 s1 e
    exact absurd ⟨sp, by omega⟩ (no i hi)
theorem col_alone {r : Room} (G : Good r) {i0 : Nat} (h0 : i0 < r.n) {k j : Int} (sp : spans (lnOf r i0) k) (hh : h2 (lnOf r i0) k = j + 1) {i : Nat} (hi : i < r.n) (ne : i ≠ i0) : ¬ (spans (lnOf r i) k ∧ h2 (lnOf r i) k = j + 1) := by
  rintro ⟨sp', hh'⟩
  have o1 := col_on (line_dir G h0) sp
  have o2 := col_on (line_dir G hi) sp'
  rw [hh] at o1
  rw [hh'] at o2
  exact not_end (l := lnOf r i0) (two_lines G h0 hi (fun z => ne z.symm) o1 o2).1
theorem col_beside {r : Room} (G : Good r) {i0 : Nat} (h0 : i0 < r.n) {k j : Int} (sp : spans (lnOf r i0) k) (hh : h2 (lnOf r i0) k = j + 1) {Y : Int} (hY : Y = 2 * j + 1 ∨ Y = 2 * j + 3) :
    ∃ i u, Beside r i (spt (4 * k + 2) (2 * (j + 1))) (spt (4 * k + 2) Y) u ∧ lam r i (spt (4 * k + 2) Y) * 4 = ((((lnOf r i0).dx * (Y - (2 * j + 2)) : Int)) : Rat) := by
  obtain ⟨i, hi, ei⟩ := prev_ix h0
  have el : r.line (i + 1) = (lnOf r i0).pts := by
    rw [← line_mod r (i + 1), ei, lnOf_pts]
  have o1 := col_on (line_dir G h0) sp
  rw [hh] at o1
  have z : left (lnOf r i0).pts.1 (lnOf r i0).pts.2 (spt (4 * k + 2) (2 * (j + 1))) = 0 := by
    unfold onLine at o1
    rw [Bool.and_eq_true, beq_iff_eq] at o1
    exact o1.1
  have elam : lam r i (spt (4 * k + 2) Y) * 4 = ((((lnOf r i0).dx * (Y - (2 * j + 2)) : Int)) : Rat) := by
    unfold lam
    rw [el]
    have f := four Y
    have f' := four (2 * (j + 1))
    have e1 : (((lnOf r i0).dx : Int) : Rat) = (lnOf r i0).pts.2.x - (lnOf r i0).pts.1.x := by unfold Ln.dx; rw [Rat.intCast_sub]; rfl
    rw [Rat.intCast_mul, e1, Rat.intCast_sub, ← f, show ((2 * j + 2 : Int) : Rat) = ((2 * (j + 1) : Int) : Rat) by congr 1; omega, ← f']
    unfold left spt at z ⊢
    dsimp only at z ⊢
    grind
  have dx0 : (lnOf r i0).dx ≠ 0 := by
    unfold spans at sp
    unfold Ln.dx
    omega
  obtain ⟨u, u0, u1, ux, uy⟩ := on_param o1
  have nu0 : u ≠ 0 := fun q => by
    rw [q] at ux uy
    exact not_end (end1_of (l := (lnOf r i0).pts) (v := spt (4 * k + 2) (2 * (j + 1))) (by rw [ux]; grind) (by rw [uy]; grind))
  have nu1 : u ≠ 1 := fun q => by
    rw [q] at ux uy
    exact not_end (end2_of (l := (lnOf r i0).pts) (v := spt (4 * k + 2) (2 * (j + 1))) (by rw [ux]; grind) (by rw [uy]; grind))
  refine ⟨i, u, ⟨hi, by grind, by grind, by rw [el]; exact ux, by rw [el]; exact uy, ?_, ?_⟩, elam⟩
  · intro q
    have q : lam r i (spt (4 * k + 2) Y) = 0 := q
    rw [q, Rat.zero_mul] at elam
    have : (lnOf r i0).dx * (Y - (2 * j + 2)) = 0 := (Rat.intCast_inj (b := 0)).mp elam.symm
    rcases Int.mul_eq_zero.mp this with c | c
    · exact dx0 c
    · omega
  · intro j' hj' ne
    rw [ei] at ne
    have no := col_alone G h0 sp hh hj' ne
    rcases hY with q | q
    · intro s s0 s1
      cases e : onLine (r.line j') (onWay (spt (4 * k + 2) Y) (spt (4 * k + 2) (2 * (j + 1))) s) with
      | false => rfl
      | true =>
        rw [lnOf_pts] at e
        obtain ⟨sp', a, b⟩ := col_height (line_dir G hj') (by omega) s0 s1 e
        exact absurd ⟨sp', by omega⟩ no
    · refine Apart.back ?_
      intro s s0 s1
      cases e : onLine (r.line j') (onWay (spt (4 * k + 2) (2 * (j + 1))) (spt (4 * k + 2) Y) s) with
      | false => rfl
      | true =>
        rw [lnOf_pts] at e
        obtain ⟨sp', a, b⟩ := col_height (line_dir G hj') (by omega) s0 s1 e
        exact absurd ⟨sp', by omega⟩ no
/-- over a column, the lines above a sample, with their directions -/
def wind (r : Room) (k j : Int) : Int := sumN r.n (fun i => if spans (lnOf r i) k ∧ j < h2 (lnOf r i) k then sgn (lnOf r i) else 0)
structure InM (r : Room) (M : Nat) : Prop where
  x0 : ∀ i, 0 ≤ (r.corner i).x
  x1 : ∀ i, (r.corner i).x ≤ M
  y0 : ∀ i, 0 ≤ (r.corner i).y
  y1 : ∀ i, (r.corner i).y ≤ M
theorem h2_in {l : Ln} (h : hasDir l = true) {k : Int} (sp : spans l k) {M : Int} (a : 0 ≤ l.y0) (b : l.y0 ≤ M) (c : 0 ≤ l.y1) (d : l.y1 ≤ M) : 0 ≤ h2 l k ∧ h2 l k ≤ 2 * M := by
  have dx0 : l.dx ≠ 0 := by
    unfold spans at sp
    unfold Ln.dx
    omega
  have s := slope_eq h dx0
  have y1 : l.y1 = l.y0 + slope l * l.dx := by unfold Ln.dy at s; omega
  have dxe : l.dx = l.x1 - l.x0 := rfl
  rw [dxe] at y1
  unfold h2
  unfold spans at sp
  rcases slope_cases l with q | q | q <;> rw [q] at y1 ⊢ <;> omega
/-- if outside lies on the lines' left -/
theorem wind_within {r : Room} (G : Good r) {M : Nat} (I : InM r M) (J : ∀ i T P u, Beside r i T P u → r.within P = decide (lam r i P < 0)) (k : Int) : ∀ d : Nat, wind r k (2 * (M : Int) - d) = if r.within (spt (4 * k + 2) (2 * (2 * (M : Int) - d) + 1)) = true then 1 else 0
  | 0 => by
    have n0 : 0 < r.n := by have := G.n3; omega
    have e1 : wind r k (2 * (M : Int) - ((0 : Nat) : Int)) = 0 := by
      unfold wind
      rw [sumN_congr (g := fun _ => 0) fun i hi => ?_, sumN_zero]
      refine if_neg fun q => ?_
      have := (h2_in (line_dir G hi) q.1 (M := (M : Int)) (I.y0 _) (I.y1 _) (I.y0 _) (I.y1 _)).2
      have := q.2
      omega
    rw [e1, not_within_far n0 (.inr (.inr (.inl fun i hi => ?_))), if_neg (by decide)]
    show ((r.corner i).y : Rat) ≤ ((2 * (2 * (M : Int) - ((0 : Nat) : Int)) + 1 : Int) : Rat) / ((4 : Int) : Rat)
    rw [le_frac (by decide)]
    have := I.y1 i
    omega
  | d + 1 => by
    have ih := wind_within G I J k d
    have ej : (2 * (M : Int) - ((d + 1 : Nat) : Int)) + 1 = 2 * (M : Int) - d := by omega
    generalize 2 * (M : Int) - ((d + 1 : Nat) : Int) = j at ej ⊢
    rw [← ej, show 2 * (j + 1) + 1 = 2 * j + 3 by omega] at ih
    have split : wind r k j = wind r k (j + 1) + sumN r.n (fun i => if spans (lnOf r i) k ∧ h2 (lnOf r i) k = j + 1 then sgn (lnOf r i) else 0) := by
      unfold wind
      rw [← sumN_add]
      refine sumN_congr fun i _ => ?_
      by_cases sp : spans (lnOf r i) k
      · by_cases a : j + 1 < h2 (lnOf r i) k
        · rw [if_pos ⟨sp, by omega⟩, if_pos ⟨sp, a⟩, if_neg (fun q => by have := q.2; omega)]
          omega
        · by_cases b : h2 (lnOf r i) k = j + 1
          · rw [if_pos ⟨sp, by omega⟩, if_neg (fun q => a q.2), if_pos ⟨sp, b⟩]
            omega
          · rw [if_neg (fun q => by have := q.2; omega), if_neg (fun q => a q.2), if_neg (fun q => b q.2)]
            rfl
      · rw [if_neg (fun q => sp q.1), if_neg (fun q => sp q.1), if_neg (fun q => sp q.1)]
        rfl
    by_cases ex : ∃ i0, i0 < r.n ∧ spans (lnOf r i0) k ∧ h2 (lnOf r i0) k = j + 1
    · obtain ⟨i0, h0, sp, hh⟩ := ex
      have one : sumN r.n (fun i => if spans (lnOf r i) k ∧ h2 (lnOf r i) k = j + 1 then sgn (lnOf r i) else 0) = sgn (lnOf r i0) := by
        rw [sumN_congr (g := fun i => if i = i0 then sgn (lnOf r i0) else 0) fun i hi => ?_, sumN_one, if_pos h0]
        by_cases q : i = i0
        · rw [if_pos q, q, if_pos ⟨sp, hh⟩]
        · rw [if_neg q, if_neg (col_alone G h0 sp hh hi q)]
      rw [split, one, ih]
      obtain ⟨i1, u1, B1, l1⟩ := col_beside G h0 sp hh (Y := 2 * j + 3) (.inr rfl)
      obtain ⟨i2, u2, B2, l2⟩ := col_beside G h0 sp hh (Y := 2 * j + 1) (.inl rfl)
      have w1 := J _ _ _ _ B1
      have w2 := J _ _ _ _ B2
      rw [w1, w2]
      have dx0 : (lnOf r i0).dx ≠ 0 := by
        unfold spans at sp
        unfold Ln.dx
        omega
      have dxe : (lnOf r i0).dx = (lnOf r i0).x1 - (lnOf r i0).x0 := rfl
      rw [show (lnOf r i0).dx * (2 * j + 3 - (2 * j + 2)) = (lnOf r i0).dx by rw [show 2 * j + 3 - (2 * j + 2) = 1 by omega, Int.mul_one]] at l1
      rw [show (lnOf r i0).dx * (2 * j + 1 - (2 * j + 2)) = -(lnOf r i0).dx by rw [show 2 * j + 1 - (2 * j + 2) = -1 by omega]; omega] at l2
      unfold sgn
      by_cases c : (lnOf r i0).x0 < (lnOf r i0).x1
      · have p : (0 : Rat) < ((lnOf r i0).dx : Rat) := Rat.intCast_pos.mpr (by omega)
        rw [Rat.intCast_neg] at l2
        rw [if_pos c, decide_eq_false (show ¬ lam r i1 (spt (4 * k + 2) (2 * j + 3)) < 0 by grind), decide_eq_true (show lam r i2 (spt (4 * k + 2) (2 * j + 1)) < 0 by grind)]
        rfl
      · have p : ((lnOf r i0).dx : Rat) < 0 := Rat.intCast_neg_iff.mpr (by omega)
        rw [Rat.intCast_neg] at l2
        rw [if_neg c, decide_eq_true (show lam r i1 (spt (4 * k + 2) (2 * j + 3)) < 0 by grind), decide_eq_false (show ¬ lam r i2 (spt (4 * k + 2) (2 * j + 1)) < 0 by grind)]
        rfl
    · have no : ∀ i, i < r.n → ¬ (spans (lnOf r i) k ∧ h2 (lnOf r i) k = j + 1) := fun i hi q => ex ⟨i, hi, q⟩
      have z : sumN r.n (fun i => if spans (lnOf r i) k ∧ h2 (lnOf r i) k = j + 1 then sgn (lnOf r i) else 0) = 0 := by
        rw [sumN_congr (g := fun _ => 0) fun i hi => if_neg (no i hi), sumN_zero]
      rw [split, z, ih, col_stay G no, Int.add_zero]
/-- all samples together: the area, turned round -/
theorem wind_area {r : Room} (G : Good r) {M : Nat} (I : InM r M) : sumN M (fun k => sumN (2 * M) (fun j => wind r (k : Int) (j : Int))) = - r.area2 := by
  have e1 : ∀ k : Nat, sumN (2 * M) (fun j => wind r (k : Int) (j : Int)) = sumN r.n (fun i => if spans (lnOf r i) (k : Int) then sgn (lnOf r i) * h2 (lnOf r i) (k : Int) else 0) := fun k => by
    unfold wind
    rw [sumN_swap]
    refine sumN_congr fun i hi => ?_
    by_cases sp : spans (lnOf r i) (k : Int)
    · have b := h2_in (line_dir G hi) sp (M := (M : Int)) (I.y0 _) (I.y1 _) (I.y0 _) (I.y1 _)
      rw [if_pos sp, ← rows (N := 2 * M) (s := sgn (lnOf r i)) b.1 (by omega)]
      refine sumN_congr fun j _ => ?_
      by_cases q : (j : Int) < h2 (lnOf r i) (k : Int)
      · rw [if_pos ⟨sp, q⟩, if_pos q]
      · rw [if_neg (fun z => q z.2), if_neg q]
    · rw [if_neg sp, sumN_congr (g := fun _ => 0) fun j _ => if_neg fun z => sp z.1, sumN_zero]
  rw [sumN_congr (fun k _ => e1 k), sumN_swap]
  rw [sumN_congr (g := fun i => (lnOf r i).dx * ((lnOf r i).y0 + (lnOf r i).y1)) fun i hi => cols (line_dir G hi) (I.x0 _) (I.x1 _) (I.x0 _) (I.x1 _)]
  have e2 : r.area2 = sumN r.n (fun i => (r.corner i).x * (r.corner (i + 1)).y - (r.corner (i + 1)).x * (r.corner i).y) := by
    unfold Room.area2
    rw [foldr_sum, sum_range]
  have e3 : sumN r.n (fun i => (r.corner (i + 1)).x * (r.corner (i + 1)).y - (r.corner i).x * (r.corner i).y) = 0 := by
    have := sumN_round (fun i => (r.corner i).x * (r.corner i).y) r.n
    rw [this, corner_round]
    omega
  have e4 : sumN r.n (fun i => (lnOf r i).dx * ((lnOf r i).y0 + (lnOf r i).y1)) + r.area2 = 0 := by
    rw [e2, ← sumN_add, ← e3]
    refine sumN_congr fun i _ => ?_
    show ((r.corner (i + 1)).x - (r.corner i).x) * ((r.corner i).y + (r.corner (i + 1)).y) + _ = _
    grind
  omega
/-- **the room lies on its lines' left** -/
theorem inner_left {r : Room} (G : Good r) {M : Nat} (I : InM r M) {i : Nat} {T P : Pt} {u : Rat} (B : Beside r i T P u) (hw : r.within P = true) : 0 < left (r.line (i + 1)).1 (r.line (i + 1)).2 P := by
  refine Classical.byContradiction fun no => ?_
  have ne := B.ne
  have neg : lam r i P < 0 := by
    show left (r.line (i + 1)).1 (r.line (i + 1)).2 P < 0
    grind
  have J : ∀ i' T' P' u', Beside r i' T' P' u' → r.within P' = decide (lam r i' P' < 0) := fun i' T' P' u' B' => by
    have := beside_two G B B'
    rw [hw, decide_eq_true neg] at this
    revert this
    cases r.within P' <;> cases decide (lam r i' P' < 0) <;> simp
  have a := wind_area G I
  have p : 0 ≤ sumN M (fun k => sumN (2 * M) (fun j => wind r (k : Int) (j : Int))) := by
    refine sumN_nonneg fun k _ => sumN_nonneg fun j hj => ?_
    have := wind_within G I J (k : Int) (2 * M - j)
    rw [show 2 * (M : Int) - ((2 * M - j : Nat) : Int) = (j : Int) by omega] at this
    rw [this]
    split <;> decide
  have := G.area
  omega
end Rm

set_option Elab.async false
set_option linter.all false
namespace Rm
open Eh
theorem corner_apart {k l : Pt × Pt} {P W : Pt} (offP : onLine l P = false) (offW : onLine l W = false) (kP : left k.1 k.2 P < 0) (kW : left k.1 k.2 W = 0)
    (h : (0 ≤ left k.1 k.2 l.1 ∧ 0 ≤ left k.1 k.2 l.2) ∨ (left l.1 l.2 P ≤ 0 ∧ left l.1 l.2 W < 0)) : Apart l P W := fun s s0 s1 => by
  cases e : onLine l (onWay P W s) with
  | false => rfl
  | true =>
    exfalso
    rcases h with ⟨h1, h2⟩ | ⟨h1, h2⟩
    · obtain ⟨u, u0, u1, ux, uy⟩ := on_param e
      have e1 : left k.1 k.2 (onWay P W s) = left k.1 k.2 l.1 + u * (left k.1 k.2 l.2 - left k.1 k.2 l.1) := by
        have e0 : left k.1 k.2 (onWay P W s) = (k.2.x - k.1.x) * ((onWay P W s).y - k.1.y) - (k.2.y - k.1.y) * ((onWay P W s).x - k.1.x) := rfl
        rw [e0, ux, uy]
        unfold left
        grind
      rw [left_way, kW] at e1
      have m1 := Rat.mul_nonneg u0 h2
      have m2 := Rat.mul_nonneg (show 0 ≤ 1 - u by grind) h1
      by_cases q : s = 1
      · rw [q, way1, offW] at e
        cases e
      · have := Rat.mul_pos (show 0 < 1 - s by grind) (show 0 < -left k.1 k.2 P by grind)
        grind
    · have z : left l.1 l.2 (onWay P W s) = 0 := by
        unfold onLine at e
        rw [Bool.and_eq_true, beq_iff_eq] at e
        exact e.1
      rw [left_way] at z
      by_cases q : s = 0
      · rw [q, way0, offP] at e
        cases e
      · have m1 := Rat.mul_pos (show 0 < s by grind) (show 0 < -left l.1 l.2 W by grind)
        have m2 := Rat.mul_nonneg (show 0 ≤ 1 - s by grind) (show 0 ≤ -left l.1 l.2 P by grind)
        grind
theorem off_left {l : Pt × Pt} {v : Pt} (h : left l.1 l.2 v ≠ 0) : onLine l v = false := by
  unfold onLine
  rw [beq_eq_false_iff_ne.mpr h, Bool.false_and]
/-- nothing is met ahead of V, and V is in no point of l: close to V neither -/
theorem near_apart {l : Pt × Pt} {P V : Pt} (free : ∀ s, 0 ≤ s → s < 1 → onLine l (onWay P V s) = false) (offV : onLine l V = false) {w : Rat → Pt} {x y : Rat} (o : Off w V x y) : Small (fun e => Apart l P (w e)) := by
  obtain ⟨a, b, c, s1, s2, s3, s4⟩ := sep_ex (l := l) (k := (P, V)) (fun v v1 v2 => by
    obtain ⟨s, s0, s1, ex, ey⟩ := on_param v2
    have e : onLine l (onWay P V s) = onLine l v := onLine_plan ex.symm ey.symm
    by_cases q : s = 1
    · rw [q, way1, offV, v1] at e
      cases e
    · rw [free s s0 (by grind), v1] at e
      cases e)
  exact (o.small s4).imp fun e _ k => sep_apart s1 s2 s3 k
/-- the place that a way from within first comes to is on a line that has the way's start on its left -/
theorem reach_left {r : Room} (G : Good r) {M : Nat} (I : InM r M) {P V : Pt} (hw : r.within P = true) (free : ∀ s, 0 ≤ s → s < 1 → ∀ j, j < r.n → onLine (r.line j) (onWay P V s) = false) {k : Nat} (hk : k < r.n) (on : onLine (r.line k) V = true) (ne : left (r.line k).1 (r.line k).2 P ≠ 0) :
    ∃ j, j < r.n ∧ onLine (r.line j) V = true ∧ 0 < left (r.line j).1 (r.line j).2 P := by
  have n0 : 0 < r.n := by have := G.n3; omega
  by_cases pos : 0 < left (r.line k).1 (r.line k).2 P
  · exact ⟨k, hk, on, pos⟩
  have neg : left (r.line k).1 (r.line k).2 P < 0 := by grind
  obtain ⟨i, hi, ei⟩ := prev_ix hk
  have el : r.line (i + 1) = r.line k := by rw [← line_mod r (i + 1), ei]
  have offP : ∀ j, j < r.n → onLine (r.line j) P = false := fun j hj => on_within hw _ (mem_lines.mpr ⟨j, hj, rfl⟩)
  have farV : ∀ j, j < r.n → j ≠ k → j ≠ i → j ≠ (i + 2) % r.n → onLine (r.line j) V = false := fun j hj q1 q2 q3 => by
    cases e : onLine (r.line j) V with
    | false => rfl
    | true =>
      have nb := cases_j G.n3 hi hj (by rw [ei]; exact q1) q2 q3
      rw [ei] at nb
      exact absurd (far_lines G hk hj nb on e) id
  obtain ⟨u, u0, u1, ux, uy⟩ := on_param on
  by_cases c0 : u = 0
  · -- at the line's start
    have vx : V.x = (r.corner (i + 1)).at_.x := by
      rw [ux, ← el, c0]
      show (r.corner (i + 1)).at_.x + 0 * _ = _
      grind
    have vy : V.y = (r.corner (i + 1)).at_.y := by
      rw [uy, ← el, c0]
      show (r.corner (i + 1)).at_.y + 0 * _ = _
      grind
    have onI : onLine (r.line i) V = true := by
      rw [onLine_plan (w := (r.line i).2) vx vy]
      exact end_on _
    by_cases pi : 0 < left (r.line i).1 (r.line i).2 P
    · exact ⟨i, hi, onI, pi⟩
    exfalso
    have tn := tau_ne G i
    have o : Off (fun e => onWay V (r.line k).2 e) V ((r.line k).2.x - V.x) ((r.line k).2.y - V.y) := way_off V (r.line k).2
    have ap : Small (fun e => ∀ j, j < r.n → j ≠ k → Apart (r.line j) P (onWay V (r.line k).2 e)) := by
      refine Small.all r.n fun j hj => ?_
      by_cases q1 : j = k
      · exact Small.of fun e _ z => absurd q1 z
      · by_cases q2 : j = i
        · refine Small.of fun e e0 _ => ?_
          rw [q2]
          have lw : left (r.line i).1 (r.line i).2 (onWay V (r.line k).2 e) = e * tau r i := by
            rw [left_way]
            have z1 : left (r.line i).1 (r.line i).2 V = 0 := by
              unfold onLine at onI
              rw [Bool.and_eq_true, beq_iff_eq] at onI
              exact onI.1
            have z2 : left (r.line i).1 (r.line i).2 (r.line k).2 = tau r i := by
              rw [← el]
              exact left_far0 r i
            rw [z1, z2]
            grind
          refine corner_apart (k := r.line k) (offP i hi) (off_left (by
            rw [lw]
            intro z
            rcases Rat.mul_eq_zero.mp z with q | q
            · grind
            · exact tn q)) neg ?_ ?_
          · rw [left_way]
            have z1 : left (r.line k).1 (r.line k).2 V = 0 := by
              have on' := on
              unfold onLine at on'
              rw [Bool.and_eq_true, beq_iff_eq] at on'
              exact on'.1
            have z2 : left (r.line k).1 (r.line k).2 (r.line k).2 = 0 := by unfold left; grind
            rw [z1, z2]
            grind
          · by_cases tp : 0 < tau r i
            · left
              have z1 : left (r.line k).1 (r.line k).2 (r.line i).1 = tau r i := by
                rw [← el]
                show left (r.corner (i + 1)).at_ (r.corner (i + 2)).at_ (r.corner i).at_ = left (r.corner i).at_ (r.corner (i + 1)).at_ (r.corner (i + 2)).at_
                unfold left
                grind
              have z2 : left (r.line k).1 (r.line k).2 (r.line i).2 = 0 := by
                rw [← el]
                show left (r.corner (i + 1)).at_ (r.corner (i + 2)).at_ (r.corner (i + 1)).at_ = 0
                unfold left
                grind
              rw [z1, z2]
              exact ⟨Rat.le_of_lt tp, Rat.le_refl⟩
            · right
              rw [lw]
              refine ⟨by grind, ?_⟩
              have := Rat.mul_pos e0 (show 0 < -tau r i by grind)
              grind
        · have offV : onLine (r.line j) V = false := by
            by_cases q3 : j = (i + 2) % r.n
            · rw [q3, line_mod]
              refine off_left ?_
              have : left (r.line (i + 2)).1 (r.line (i + 2)).2 V = tau r (i + 1) := by
                rw [← left_far]
                unfold left
                rw [vx, vy]
              rw [this]
              exact tau_ne G (i + 1)
            · exact farV j hj q1 q2 q3
          exact (near_apart (fun s s0 s1 => free s s0 s1 j hj) offV o).imp fun e _ z _ => z
    obtain ⟨e, e0, h1, h2⟩ := (ap.and (Small.lt (show (0 : Rat) < 1 by decide))).ex
    have B : Beside r i (onWay V (r.line k).2 e) P e := by
      refine ⟨hi, e0, h2, ?_, ?_, by rw [el]; exact ne, fun j hj q => h1 j hj (by rw [ei] at q; exact q)⟩
      · rw [el]
        show V.x + e * ((r.line k).2.x - V.x) = _
        rw [ux, c0]
        grind
      · rw [el]
        show V.y + e * ((r.line k).2.y - V.y) = _
        rw [uy, c0]
        grind
    have := inner_left G I B hw
    rw [el] at this
    grind
  · by_cases c1 : u = 1
    · -- at the line's end
      have hj2 : (i + 2) % r.n < r.n := Nat.mod_lt _ n0
      have vx : V.x = (r.corner (i + 2)).at_.x := by
        rw [ux, ← el, c1]
        show (r.corner (i + 1)).at_.x + 1 * ((r.corner (i + 2)).at_.x - (r.corner (i + 1)).at_.x) = _
        grind
      have vy : V.y = (r.corner (i + 2)).at_.y := by
        rw [uy, ← el, c1]
        show (r.corner (i + 1)).at_.y + 1 * ((r.corner (i + 2)).at_.y - (r.corner (i + 1)).at_.y) = _
        grind
      have onN : onLine (r.line (i + 2)) V = true := by
        rw [onLine_plan (w := (r.line (i + 2)).1) vx vy]
        exact start_on _
      by_cases pn : 0 < left (r.line (i + 2)).1 (r.line (i + 2)).2 P
      · exact ⟨(i + 2) % r.n, hj2, by rw [line_mod]; exact onN, by rw [line_mod]; exact pn⟩
      exfalso
      have tn := tau_ne G (i + 1)
      have o : Off (fun e => onWay V (r.line k).1 e) V ((r.line k).1.x - V.x) ((r.line k).1.y - V.y) := way_off V (r.line k).1
      have ap : Small (fun e => ∀ j, j < r.n → j ≠ k → Apart (r.line j) P (onWay V (r.line k).1 e)) := by
        refine Small.all r.n fun j hj => ?_
        by_cases q1 : j = k
        · exact Small.of fun e _ z => absurd q1 z
        · by_cases q3 : j = (i + 2) % r.n
          · refine Small.of fun e e0 _ => ?_
            have ol := offP j hj
            rw [q3, line_mod] at ol ⊢
            have lw : left (r.line (i + 2)).1 (r.line (i + 2)).2 (onWay V (r.line k).1 e) = e * tau r (i + 1) := by
              rw [left_way]
              have z1 : left (r.line (i + 2)).1 (r.line (i + 2)).2 V = 0 := by
                unfold onLine at onN
                rw [Bool.and_eq_true, beq_iff_eq] at onN
                exact onN.1
              have z2 : left (r.line (i + 2)).1 (r.line (i + 2)).2 (r.line k).1 = tau r (i + 1) := by
                rw [← el]
                exact left_far r i
              rw [z1, z2]
              grind
            refine corner_apart (k := r.line k) ol (off_left (by
              rw [lw]
              intro z
              rcases Rat.mul_eq_zero.mp z with q | q
              · grind
              · exact tn q)) neg ?_ ?_
            · rw [left_way]
              have z1 : left (r.line k).1 (r.line k).2 V = 0 := by
                have on' := on
                unfold onLine at on'
                rw [Bool.and_eq_true, beq_iff_eq] at on'
                exact on'.1
              have z2 : left (r.line k).1 (r.line k).2 (r.line k).1 = 0 := by unfold left; grind
              rw [z1, z2]
              grind
            · by_cases tp : 0 < tau r (i + 1)
              · left
                have z1 : left (r.line k).1 (r.line k).2 (r.line (i + 2)).1 = 0 := by
                  rw [← el]
                  show left (r.corner (i + 1)).at_ (r.corner (i + 2)).at_ (r.corner (i + 2)).at_ = 0
                  unfold left
                  grind
                have z2 : left (r.line k).1 (r.line k).2 (r.line (i + 2)).2 = tau r (i + 1) := by
                  rw [← el]
                  rfl
                rw [z1, z2]
                exact ⟨Rat.le_refl, Rat.le_of_lt tp⟩
              · right
                rw [lw]
                refine ⟨by grind, ?_⟩
                have := Rat.mul_pos e0 (show 0 < -tau r (i + 1) by grind)
                grind
          · have offV : onLine (r.line j) V = false := by
              by_cases q2 : j = i
              · rw [q2]
                refine off_left ?_
                have : left (r.line i).1 (r.line i).2 V = tau r i := by
                  rw [← left_far0]
                  unfold left
                  rw [vx, vy]
                rw [this]
                exact tau_ne G i
              · exact farV j hj q1 q2 q3
            exact (near_apart (fun s s0 s1 => free s s0 s1 j hj) offV o).imp fun e _ z _ => z
      obtain ⟨e, e0, h1, h2⟩ := (ap.and (Small.lt (show (0 : Rat) < 1 by decide))).ex
      have B : Beside r i (onWay V (r.line k).1 e) P (1 - e) := by
        refine ⟨hi, by grind, by grind, ?_, ?_, by rw [el]; exact ne, fun j hj q => h1 j hj (by rw [ei] at q; exact q)⟩
        · rw [el]
          show V.x + e * ((r.line k).1.x - V.x) = _
          rw [ux, c1]
          grind
        · rw [el]
          show V.y + e * ((r.line k).1.y - V.y) = _
          rw [uy, c1]
          grind
      have := inner_left G I B hw
      rw [el] at this
      grind
    · -- in the open line
      exfalso
      have B : Beside r i V P u := by
        refine ⟨hi, by grind, by grind, by rw [el]; exact ux, by rw [el]; exact uy, by rw [el]; exact ne, fun j hj q => ?_⟩
        rw [ei] at q
        intro s s0 s1
        by_cases z : s = 1
        · rw [z, way1]
          cases e : onLine (r.line j) V with
          | false => rfl
          | true =>
            have en := (two_lines G hk hj (fun z => q z.symm) on e).1
            exfalso
            have dd : ¬ ((r.line k).2.x = (r.line k).1.x ∧ (r.line k).2.y = (r.line k).1.y) := fun z => by
              have := ne
              unfold left at this
              rw [z.1, z.2] at this
              exact this (by grind)
            unfold isEnd at en
            rw [Bool.or_eq_true, Bool.and_eq_true, Bool.and_eq_true, beq_iff_eq, beq_iff_eq, beq_iff_eq, beq_iff_eq] at en
            rcases en with ⟨a, b⟩ | ⟨a, b⟩
            · refine dd ⟨?_, ?_⟩
              · have : u * ((r.line k).2.x - (r.line k).1.x) = 0 := by grind
                have := mul_cancel0 c0 this
                grind
              · have : u * ((r.line k).2.y - (r.line k).1.y) = 0 := by grind
                have := mul_cancel0 c0 this
                grind
            · refine dd ⟨?_, ?_⟩
              · have : (1 - u) * ((r.line k).2.x - (r.line k).1.x) = 0 := by grind
                have := mul_cancel0 (show 1 - u ≠ 0 by grind) this
                grind
              · have : (1 - u) * ((r.line k).2.y - (r.line k).1.y) = 0 := by grind
                have := mul_cancel0 (show 1 - u ≠ 0 by grind) this
                grind
        · exact free s s0 (by grind) j hj
      have := inner_left G I B hw
      rw [el] at this
      exact pos this
end Rm

set_option Elab.async false
set_option linter.all false
namespace Rm
open Eh
/-! ### the program's first stop -/
def isCand (a : Int × Int) : Prop := 0 < a.1 ∧ a.2 < a.1
instance (a : Int × Int) : Decidable (isCand a) := inferInstanceAs (Decidable (_ ∧ _))
def stepI (first : Option (Int × Int)) (a : Int × Int) : Option (Int × Int) :=
  if isCand a then (match first with
    | none => some (a.1, a.1 - a.2)
    | some f => if a.1 * f.2 < f.1 * (a.1 - a.2) then some (a.1, a.1 - a.2) else some f)
  else first
def stopI (l : List (Int × Int)) : Option (Int × Int) := l.foldl stepI none
/-- what holds of the stop among those that were looked at -/
structure StopOf (l : List (Int × Int)) (s : Option (Int × Int)) : Prop where
  none : s = none → ∀ a ∈ l, ¬ isCand a
  pos : ∀ f, s = some f → 0 < f.1 ∧ 0 < f.2
  ex : ∀ f, s = some f → ∃ a ∈ l, isCand a ∧ f = (a.1, a.1 - a.2)
  all : ∀ f, s = some f → ∀ a ∈ l, isCand a → f.1 * (a.1 - a.2) ≤ a.1 * f.2
theorem le_trans_frac {n d m e a b : Int} (hd : 0 < d) (he : 0 < e) (hb : 0 < b) (h1 : n * e ≤ m * d) (h2 : m * b ≤ a * e) : n * b ≤ a * d := by
  refine Int.not_lt.mp fun q => ?_
  have k1 := Int.mul_le_mul_of_nonneg_right h1 (Int.le_of_lt hb)
  have k2 := Int.mul_le_mul_of_nonneg_right h2 (Int.le_of_lt hd)
  have k3 := Int.mul_lt_mul_of_pos_right q he
  have e1 : n * b * e = n * e * b := by grind
  have e2 : a * d * e = a * e * d := by grind
  have e3 : m * d * b = m * b * d := by grind
  rw [e1, e2] at k3
  rw [e3] at k1
  omega
theorem StopOf.step {l : List (Int × Int)} {s : Option (Int × Int)} (S : StopOf l s) (a : Int × Int) : StopOf (l ++ [a]) (stepI s a) := by
  unfold stepI
  by_cases c : isCand a
  · rw [if_pos c]
    have d0 : 0 < a.1 - a.2 := by have := c.2; omega
    cases s with
    | none =>
      have no := S.none rfl
      refine ⟨fun z => (by cases z), fun f e => ?_, fun f e => ?_, fun f e b hb cb => ?_⟩
      · have e : some (a.1, a.1 - a.2) = some f := e
        rw [← Option.some.inj e]
        exact ⟨c.1, d0⟩
      · have e : some (a.1, a.1 - a.2) = some f := e
        exact ⟨a, List.mem_append_right _ (List.mem_singleton_self a), c, (Option.some.inj e).symm⟩
      · have e : some (a.1, a.1 - a.2) = some f := e
        rw [← Option.some.inj e]
        rcases List.mem_append.mp hb with q | q
        · exact absurd cb (no b q)
        · rw [List.mem_singleton.mp q]
          exact Int.le_refl _
    | some g =>
      have gp := S.pos g rfl
      obtain ⟨g0, hg0, cg, eg⟩ := S.ex g rfl
      have ga := S.all g rfl
      show StopOf (l ++ [a]) (if a.1 * g.2 < g.1 * (a.1 - a.2) then some (a.1, a.1 - a.2) else some g)
      by_cases q : a.1 * g.2 < g.1 * (a.1 - a.2)
      · rw [if_pos q]
        refine ⟨fun z => (by cases z), fun f e => ?_, fun f e => ?_, fun f e b hb cb => ?_⟩
        · rw [← Option.some.inj e]
          exact ⟨c.1, d0⟩
        · exact ⟨a, List.mem_append_right _ (List.mem_singleton_self a), c, (Option.some.inj e).symm⟩
        · rw [← Option.some.inj e]
          have b0 : 0 < b.1 - b.2 := by have := cb.2; omega
          rcases List.mem_append.mp hb with y | y
          · exact le_trans_frac d0 gp.2 b0 (Int.le_of_lt q) (ga b y cb)
          · rw [List.mem_singleton.mp y]
            exact Int.le_refl _
      · rw [if_neg q]
        refine ⟨fun z => (by cases z), fun f e => ?_, fun f e => ?_, fun f e b hb cb => ?_⟩
        · rw [← Option.some.inj e]
          exact gp
        · rw [← Option.some.inj e]
          exact ⟨g0, List.mem_append_left _ hg0, cg, eg⟩
        · rw [← Option.some.inj e]
          rcases List.mem_append.mp hb with y | y
          · exact ga b y cb
          · rw [List.mem_singleton.mp y]
            omega
  · rw [if_neg c]
    refine ⟨fun z b hb => ?_, S.pos, fun f e => ?_, fun f e b hb cb => ?_⟩
    · rcases List.mem_append.mp hb with y | y
      · exact S.none z b y
      · rw [List.mem_singleton.mp y]
        exact c
    · obtain ⟨b, hb, k⟩ := S.ex f e
      exact ⟨b, List.mem_append_left _ hb, k⟩
    · rcases List.mem_append.mp hb with y | y
      · exact S.all f e b y cb
      · rw [List.mem_singleton.mp y] at cb
        exact absurd cb c
theorem stop_take (l : List (Int × Int)) : ∀ i, i ≤ l.length → StopOf (l.take i) (stopI (l.take i))
  | 0, _ => ⟨fun _ a ha => (by simp at ha), fun f e => (by cases e), fun f e => (by cases e), fun f e => (by cases e)⟩
  | i + 1, h => by
    have hi : i < l.length := by omega
    have e : l.take (i + 1) = l.take i ++ [l[i]] := by rw [List.take_succ, List.getElem?_eq_getElem hi]; rfl
    rw [e]
    unfold stopI
    rw [List.foldl_append]
    exact (stop_take l i (by omega)).step l[i]
theorem stop_of (l : List (Int × Int)) : StopOf l (stopI l) := by
  have := stop_take l l.length (Nat.le_refl _)
  rw [List.take_length] at this
  exact this
/-! ### what it looks at -/
def pairL (px py qx qy : Int) (l : Ln) : Int × Int := (side l px py, side l qx qy)
def pairsI (ls : List Ln) (h px py pz qx qy qz : Int) : List (Int × Int) := ((ls.filter fun l => reach l ⟨px, py, qx, qy⟩).map (pairL px py qx qy)) ++ [(pz, qz), (h - pz, h - qz)]
theorem off_side (l : Ln) (px py qx qy : Int) : side ⟨px, py, qx, qy⟩ l.x0 l.y0 = - offX px py (qx - px) (qy - py) l ∧ side ⟨px, py, qx, qy⟩ l.x1 l.y1 = dirX (qx - px) (qy - py) l - offX px py (qx - px) (qy - py) l := by
  unfold side offX dirX Ln.dx Ln.dy
  constructor <;> grind
theorem reach_iff {l : Ln} {px py qx qy : Int} (hd : 0 < dirX (qx - px) (qy - py) l) : reach l ⟨px, py, qx, qy⟩ = true ↔ (0 ≤ offX px py (qx - px) (qy - py) l ∧ offX px py (qx - px) (qy - py) l ≤ dirX (qx - px) (qy - py) l) := by
  obtain ⟨e1, e2⟩ := off_side l px py qx qy
  unfold reach
  rw [decide_eq_true_eq, e1, e2]
  generalize offX px py (qx - px) (qy - py) l = u
  generalize dirX (qx - px) (qy - py) l = d at hd
  constructor
  · intro h
    constructor
    · refine Int.not_lt.mp fun q => ?_
      have := Int.mul_pos (show 0 < -u by omega) (show 0 < d - u by omega)
      omega
    · refine Int.not_lt.mp fun q => ?_
      have := Int.mul_pos_of_neg_of_neg (show -u < 0 by omega) (show d - u < 0 by omega)
      omega
  · rintro ⟨h1, h2⟩
    exact Int.mul_nonpos_of_nonpos_of_nonneg (by omega) (by omega)
/-- a line that the program asks: it is met there -/
theorem cand_hit {l : Ln} {px py qx qy : Int} (hr : reach l ⟨px, py, qx, qy⟩ = true) (c : isCand (pairL px py qx qy l)) : hitI px py (qx - px) (qy - py) l = some (side l px py, side l px py - side l qx qy) := by
  have c1 : 0 < side l px py := c.1
  have c2 : side l qx qy < side l px py := c.2
  have e := side_two l px py qx qy
  have hd : 0 < dirX (qx - px) (qy - py) l := by omega
  have k := (reach_iff hd).mp hr
  unfold hitI
  rw [if_neg (by omega), if_neg (by omega), if_pos ⟨c1, k.1, k.2⟩, e]
/-- .. and one that is met with the start on its left: the program asks it -/
theorem hit_cand {l : Ln} {px py qx qy : Int} {a : Int × Int} (e : hitI px py (qx - px) (qy - py) l = some a) (c1 : 0 < side l px py) : reach l ⟨px, py, qx, qy⟩ = true ∧ isCand (pairL px py qx qy l) ∧ a = (side l px py, side l px py - side l qx qy) := by
  have s := side_two l px py qx qy
  unfold hitI at e
  by_cases z : dirX (qx - px) (qy - py) l = 0
  · rw [if_pos z] at e
    cases e
  · rw [if_neg z] at e
    by_cases n : dirX (qx - px) (qy - py) l < 0
    · rw [if_pos n, if_neg (by omega)] at e
      cases e
    · rw [if_neg n] at e
      have hd : 0 < dirX (qx - px) (qy - py) l := by omega
      by_cases q : 0 < side l px py ∧ 0 ≤ offX px py (qx - px) (qy - py) l ∧ offX px py (qx - px) (qy - py) l ≤ dirX (qx - px) (qy - py) l
      · rw [if_pos q] at e
        refine ⟨(reach_iff hd).mpr q.2, ⟨c1, by show side l qx qy < side l px py; omega⟩, ?_⟩
        rw [← Option.some.inj e, s]
      · rw [if_neg q] at e
        cases e
section
variable {ns : List Int} {px py pz qx qy qz : Int}
theorem inM_M (h : faultM ns = none) : InM (roomM ns) 4095 := by
  have hn : 0 < cnt ns := by have := faultM_whole h; omega
  have ok : ∀ i, i < cnt ns → (0 ≤ at_ ns (3 + 3 * i) ∧ at_ ns (3 + 3 * i) ≤ 4095) ∧ (0 ≤ at_ ns (3 + 3 * i + 1) ∧ at_ ns (3 + 3 * i + 1) ≤ 4095) := fun i hi => by
    have q := find_none_all (fault_none h).1 hi
    rw [Bool.not_eq_false'] at q
    unfold okCorner okCoord at q
    simp only [Bool.and_eq_true, decide_eq_true_eq] at q
    exact ⟨q.1, q.2.1⟩
  have at' : ∀ i, (roomM ns).corner i = ⟨at_ ns (3 + 3 * (i % cnt ns)), at_ ns (3 + 3 * (i % cnt ns) + 1), stuffOf (at_ ns (3 + 3 * (i % cnt ns) + 2))⟩ := fun i => corner_at (roomM ns) (cnt ns) _ rfl i hn
  refine ⟨fun i => ?_, fun i => ?_, fun i => ?_, fun i => ?_⟩ <;> rw [at' i]
  · exact (ok _ (Nat.mod_lt _ hn)).1.1
  · exact (ok _ (Nat.mod_lt _ hn)).1.2
  · exact (ok _ (Nat.mod_lt _ hn)).2.1
  · exact (ok _ (Nat.mod_lt _ hn)).2.2
theorem left_M (hn : 0 < cnt ns) {j : Nat} (hj : j < cnt ns) (x y : Int) (z : Rat) : left ((roomM ns).line j).1 ((roomM ns).line j).2 ⟨x, y, z⟩ = ((side (lnAt (linesM ns) j) x y : Int) : Rat) := by
  rw [lnOf_pts, lnOf_M hn hj]
  exact left_cast _ _ _ _
theorem inside_z (hp : insideI (linesM ns) (at_ ns 0) px py pz = true) : 0 < pz ∧ pz < at_ ns 0 := by
  unfold insideI at hp
  simp only [Bool.and_eq_true, decide_eq_true_eq] at hp
  exact hp.2
theorem hitF_floor (z0 : 0 < pz) {a : Int × Int} (e : hitF 0 pz (qz - pz) = some a) : isCand (pz, qz) ∧ a = (pz, pz - qz) := by
  unfold hitF at e
  by_cases c : qz - pz = 0
  · rw [if_pos c] at e
    cases e
  · rw [if_neg c] at e
    by_cases n : qz - pz < 0
    · rw [if_pos n, if_pos (by omega)] at e
      refine ⟨⟨z0, by show qz < pz; omega⟩, ?_⟩
      rw [← Option.some.inj e]
      congr 1 <;> omega
    · rw [if_neg n, if_neg (by omega)] at e
      cases e
theorem floor_hitF (c : isCand (pz, qz)) : hitF 0 pz (qz - pz) = some (pz, pz - qz) := by
  have c1 : 0 < pz := c.1
  have c2 : qz < pz := c.2
  unfold hitF
  rw [if_neg (by omega), if_pos (by omega), if_pos (by omega)]
  congr 1
  congr 1 <;> omega
theorem hitF_ceil {h : Int} (z1 : pz < h) {a : Int × Int} (e : hitF h pz (qz - pz) = some a) : isCand (h - pz, h - qz) ∧ a = (h - pz, h - pz - (h - qz)) := by
  unfold hitF at e
  by_cases c : qz - pz = 0
  · rw [if_pos c] at e
    cases e
  · rw [if_neg c] at e
    by_cases n : qz - pz < 0
    · rw [if_pos n, if_neg (by omega)] at e
      cases e
    · rw [if_neg n, if_pos (by omega)] at e
      refine ⟨⟨by show 0 < h - pz; omega, by show h - qz < h - pz; omega⟩, ?_⟩
      rw [← Option.some.inj e]
      congr 1
      omega
theorem ceil_hitF {h : Int} (c : isCand (h - pz, h - qz)) : hitF h pz (qz - pz) = some (h - pz, h - pz - (h - qz)) := by
  have c1 : 0 < h - pz := c.1
  have c2 : h - qz < h - pz := c.2
  unfold hitF
  rw [if_neg (by omega), if_neg (by omega), if_pos (by omega)]
  congr 1
  congr 1
  omega
theorem lnAt_mem {ls : List Ln} {l : Ln} (h : l ∈ ls) : ∃ w, w < ls.length ∧ lnAt ls w = l := by
  obtain ⟨w, e⟩ := List.getElem?_of_mem h
  have hw := (List.getElem?_eq_some_iff.mp e).1
  refine ⟨w, hw, ?_⟩
  unfold lnAt
  rw [List.getD_eq_getElem?_getD, e]
  rfl
theorem mem_lnAt {ls : List Ln} {w : Nat} (hw : w < ls.length) : lnAt ls w ∈ ls := by
  unfold lnAt
  rw [List.getD_eq_getElem?_getD, List.getElem?_eq_getElem hw]
  exact List.getElem_mem hw
/-- whatever the program asks, is met -/
theorem cand_hitW {ls : List Ln} {h : Int} {a : Int × Int} (ha : a ∈ pairsI ls h px py pz qx qy qz) (c : isCand a) : ∃ w, w < ls.length + 2 ∧ hitW ls h px py pz qx qy qz w = some (a.1, a.1 - a.2) := by
  unfold pairsI at ha
  rcases List.mem_append.mp ha with q | q
  · obtain ⟨l, hl, e⟩ := List.mem_map.mp q
    obtain ⟨h1, h2⟩ := List.mem_filter.mp hl
    obtain ⟨w, hw, el⟩ := lnAt_mem h1
    refine ⟨w, by omega, ?_⟩
    unfold hitW
    rw [if_pos hw, el, ← e]
    rw [← e] at c
    exact cand_hit h2 c
  · have q : a = (pz, qz) ∨ a = (h - pz, h - qz) := by simpa using q
    rcases q with q | q
    · refine ⟨ls.length, by omega, ?_⟩
      unfold hitW
      rw [if_neg (by omega), if_pos rfl]
      subst q
      exact floor_hitF c
    · refine ⟨ls.length + 1, by omega, ?_⟩
      unfold hitW
      rw [if_neg (by omega), if_neg (by omega)]
      subst q
      exact ceil_hitF c
/-- **the program's stop is the first place** -/
theorem stop_first (h : faultM ns = none) (hp : insideI (linesM ns) (at_ ns 0) px py pz = true) (hq : ¬ (px = qx ∧ py = qy ∧ pz = qz)) :
    ∃ f, stopI (pairsI (linesM ns) (at_ ns 0) px py pz qx qy qz) = some f ∧ IsFirst (linesM ns) (at_ ns 0) px py pz qx qy qz f.1 f.2 := by
  have hn : 0 < cnt ns := by have := faultM_whole h; omega
  have R := roomM_is (ns := ns) hn
  have G := good_M h
  have hz := inside_z hp
  have hw := within_pt h hp
  obtain ⟨T, eT⟩ := first_some (r := roomM ns) G (p := ⟨px, py, pz⟩) (q := ⟨qx, qy, qz⟩) (by rw [inside_I R hn]; exact hp) (fun z => by
    injection z with a b c
    exact hq ⟨Rat.intCast_inj.mp a, Rat.intCast_inj.mp b, Rat.intCast_inj.mp c⟩)
  rw [firstAt_some] at eT
  obtain ⟨⟨w, hwl, ew⟩, allT⟩ := eT
  have wl : (roomM ns).walls = cnt ns + 2 := by unfold Room.walls; rw [R.n]
  have cand : ∃ a, a ∈ pairsI (linesM ns) (at_ ns 0) px py pz qx qy qz ∧ isCand a ∧ quot (a.1, a.1 - a.2) = T := by
    by_cases c : w < (roomM ns).n
    · obtain ⟨T0, hD, on⟩ := of_meetsAt c ew
      have flat : ∀ {j : Nat}, onLine ((roomM ns).line j) (onWay ⟨px, py, pz⟩ ⟨qx, qy, qz⟩ T) = true → left ((roomM ns).line j).1 ((roomM ns).line j).2 ⟨px, py, pz⟩ + T * (left ((roomM ns).line j).1 ((roomM ns).line j).2 ⟨qx, qy, qz⟩ - left ((roomM ns).line j).1 ((roomM ns).line j).2 ⟨px, py, pz⟩) = 0 := fun {j} o => by
        unfold onLine at o
        rw [Bool.and_eq_true, beq_iff_eq, left_way] at o
        exact o.1
      have c2 : ∀ j : Nat, cross2 ⟨px, py, pz⟩ ⟨qx, qy, qz⟩ ((roomM ns).line j) = -(left ((roomM ns).line j).1 ((roomM ns).line j).2 ⟨qx, qy, qz⟩ - left ((roomM ns).line j).1 ((roomM ns).line j).2 ⟨px, py, pz⟩) := fun j => by
        unfold cross2 left
        grind
      have ne : left ((roomM ns).line w).1 ((roomM ns).line w).2 ⟨px, py, pz⟩ ≠ 0 := fun z => by
        have f := flat on
        rw [z] at f
        have : T * (left ((roomM ns).line w).1 ((roomM ns).line w).2 ⟨qx, qy, qz⟩ - 0) = 0 := by grind
        have := mul_cancel0 (by grind) this
        refine hD ?_
        rw [c2, z, this]
        rfl
      have free : ∀ s, 0 ≤ s → s < 1 → ∀ j, j < (roomM ns).n → onLine ((roomM ns).line j) (onWay ⟨px, py, pz⟩ (onWay ⟨px, py, pz⟩ ⟨qx, qy, qz⟩ T) s) = false := fun s s0 s1 j hj => by
        have e : onWay (⟨px, py, pz⟩ : Pt) (onWay ⟨px, py, pz⟩ ⟨qx, qy, qz⟩ T) s = onWay ⟨px, py, pz⟩ ⟨qx, qy, qz⟩ (s * T) := by
          unfold onWay
          congr 1 <;> grind
        rw [e]
        have := Rat.mul_pos (show 0 < 1 - s by grind) T0
        exact before_first G (on_within hw) (fun w t hw ht => allT w t (by unfold Room.walls; omega) ht) (Rat.mul_nonneg s0 (Rat.le_of_lt T0)) (by grind) _ (mem_lines.mpr ⟨j, hj, rfl⟩)
      obtain ⟨j, hj, onj, posj⟩ := reach_left G (inM_M h) hw free c on ne
      have hDj : cross2 ⟨px, py, pz⟩ ⟨qx, qy, qz⟩ ((roomM ns).line j) ≠ 0 := fun z => by
        rw [c2] at z
        have f := flat onj
        rw [show left ((roomM ns).line j).1 ((roomM ns).line j).2 ⟨qx, qy, qz⟩ - left ((roomM ns).line j).1 ((roomM ns).line j).2 ⟨px, py, pz⟩ = 0 by grind, Rat.mul_zero] at f
        grind
      have mj := meetsAt_of hj T0 hDj onj
      have hj' : j < cnt ns := by rw [R.n] at hj; exact hj
      rw [meetsAt_M hn] at mj
      unfold hitW at mj
      rw [if_pos (by rw [lines_len]; exact hj')] at mj
      rw [left_M hn hj'] at posj
      cases e2 : hitI px py (qx - px) (qy - py) (lnAt (linesM ns) j) with
      | none =>
        rw [e2] at mj
        cases mj
      | some a =>
        rw [e2] at mj
        obtain ⟨k1, k2, k3⟩ := hit_cand e2 (Rat.intCast_pos.mp posj)
        refine ⟨pairL px py qx qy (lnAt (linesM ns) j), ?_, k2, ?_⟩
        · unfold pairsI
          refine List.mem_append_left _ (List.mem_map.mpr ⟨_, List.mem_filter.mpr ⟨mem_lnAt (by rw [lines_len]; exact hj'), k1⟩, rfl⟩)
        · have : quot a = T := Option.some.inj mj
          rw [← this, k3]
          rfl
    · rw [meetsAt_M hn] at ew
      rw [wl] at hwl
      rw [R.n] at c
      unfold hitW at ew
      rw [lines_len, if_neg c] at ew
      by_cases f : w = cnt ns
      · rw [if_pos f] at ew
        cases e2 : hitF 0 pz (qz - pz) with
        | none =>
          rw [e2] at ew
          cases ew
        | some a =>
          rw [e2] at ew
          obtain ⟨k1, k2⟩ := hitF_floor hz.1 e2
          refine ⟨(pz, qz), ?_, k1, ?_⟩
          · unfold pairsI
            exact List.mem_append_right _ (by simp)
          · have : quot a = T := Option.some.inj ew
            rw [← this, k2]
      · rw [if_neg f] at ew
        cases e2 : hitF (at_ ns 0) pz (qz - pz) with
        | none =>
          rw [e2] at ew
          cases ew
        | some a =>
          rw [e2] at ew
          obtain ⟨k1, k2⟩ := hitF_ceil hz.2 e2
          refine ⟨(at_ ns 0 - pz, at_ ns 0 - qz), ?_, k1, ?_⟩
          · unfold pairsI
            exact List.mem_append_right _ (by simp)
          · have : quot a = T := Option.some.inj ew
            rw [← this, k2]
  obtain ⟨c0, hc0, cc0, ec0⟩ := cand
  have S := stop_of (pairsI (linesM ns) (at_ ns 0) px py pz qx qy qz)
  cases e : stopI (pairsI (linesM ns) (at_ ns 0) px py pz qx qy qz) with
  | none => exact absurd cc0 (S.none e c0 hc0)
  | some f =>
    refine ⟨f, rfl, ?_⟩
    have fp := S.pos f e
    obtain ⟨a, ha, ca, fa⟩ := S.ex f e
    obtain ⟨w', hw', ew'⟩ := cand_hitW ha ca
    refine ⟨fp.1, fp.2, ⟨w', f, hw', by rw [ew', fa], rfl⟩, fun w a hw ea => ?_⟩
    have ap := hitW_pos ea
    refine (frac_le2 fp.2 ap.2).mp ?_
    have k1 := S.all f e c0 hc0 cc0
    have d0 : 0 < c0.1 - c0.2 := by have := cc0.2; omega
    have k2 := (frac_le2 (n := f.1) (m := c0.1) fp.2 d0).mpr k1
    have k3 : (c0.1 : Rat) / ((c0.1 - c0.2 : Int) : Rat) = T := ec0
    have k4 := allT w (quot a) (by rw [wl]; rw [lines_len] at hw; exact hw) (by rw [meetsAt_M hn, ea]; rfl)
    unfold quot at k4
    rw [k3] at k2
    exact Rat.le_trans k2 k4
end
end Rm

set_option Elab.async false
set_option linter.all false
namespace Rm
open Eh
/-! ### what meets answers, as the program reckons it -/
def gcdI (a b : Int) : Int := ((Int.gcd a b : Nat) : Int)
def gcd4I (X Y Z W : Int) : Int := gcdI (gcdI (gcdI (gcdI W X) Y) Z) W
theorem gcd4_ok {X Y Z W : Int} (hW : 0 < W) : Gcd4 X Y Z W (gcd4I X Y Z W) := by
  have l : ∀ a b : Int, gcdI a b ∣ a := fun a b => Int.gcd_dvd_left a b
  have r : ∀ a b : Int, gcdI a b ∣ b := fun a b => Int.gcd_dvd_right a b
  unfold gcd4I
  refine ⟨?_, ?_, ?_, ?_, r _ _, fun k kx ky kz kw => ?_⟩
  · have d : gcdI (gcdI (gcdI (gcdI W X) Y) Z) W ∣ W := r _ _
    have nn : 0 ≤ gcdI (gcdI (gcdI (gcdI W X) Y) Z) W := Int.natCast_nonneg _
    have : gcdI (gcdI (gcdI (gcdI W X) Y) Z) W ≠ 0 := fun z => by
      rw [z] at d
      have := Int.zero_dvd.mp d
      omega
    omega
  · exact Int.dvd_trans (l _ _) (Int.dvd_trans (l _ _) (Int.dvd_trans (l _ _) (r _ _)))
  · exact Int.dvd_trans (l _ _) (Int.dvd_trans (l _ _) (r _ _))
  · exact Int.dvd_trans (l _ _) (r _ _)
  · exact Int.dvd_coe_gcd (Int.dvd_coe_gcd (Int.dvd_coe_gcd (Int.dvd_coe_gcd kw kx) ky) kz) kw
def scl (d : Int) (l : Ln) : Ln := ⟨l.x0 * d, l.y0 * d, l.x1 * d, l.y1 * d⟩
def wallsI (ls : List Ln) (h x y z d : Int) : List Int := ((((List.range ls.length).filter fun i => common (scl d (lnAt ls i)) ⟨x, y, x, y⟩).map fun i : Nat => (i : Int)) ++ (if z = 0 then [(ls.length : Int)] else [])) ++ (if z = h * d then [(ls.length : Int) + 1] else [])
def placeL (px py pz qx qy qz : Int) (f : Int × Int) : List Int :=
  let X := px * f.2 + (qx - px) * f.1
  let Y := py * f.2 + (qy - py) * f.1
  let Z := pz * f.2 + (qz - pz) * f.1
  let g := gcd4I X Y Z f.2
  [X / g, Y / g, Z / g, f.2 / g]
theorem min_mul_pos {a b d : Int} (hd : 0 < d) : min (a * d) (b * d) = d * min a b := by
  by_cases q : a ≤ b
  · rw [Int.min_eq_left q, Int.min_eq_left (Int.mul_le_mul_of_nonneg_right q (Int.le_of_lt hd)), Int.mul_comm]
  · have q' : b ≤ a := by omega
    rw [Int.min_eq_right q', Int.min_eq_right (Int.mul_le_mul_of_nonneg_right q' (Int.le_of_lt hd)), Int.mul_comm]
theorem max_mul_pos {a b d : Int} (hd : 0 < d) : max (a * d) (b * d) = d * max a b := by
  by_cases q : a ≤ b
  · rw [Int.max_eq_right q, Int.max_eq_right (Int.mul_le_mul_of_nonneg_right q (Int.le_of_lt hd)), Int.mul_comm]
  · have q' : b ≤ a := by omega
    rw [Int.max_eq_left q', Int.max_eq_left (Int.mul_le_mul_of_nonneg_right q' (Int.le_of_lt hd)), Int.mul_comm]
theorem common_scl {d x y : Int} (hd : 0 < d) (l : Ln) : common (scl d l) ⟨x, y, x, y⟩ = decide (onW d x y l) := by
  rw [common_self]
  unfold onB
  rw [Bool.eq_iff_iff, decide_eq_true_eq, decide_eq_true_eq]
  unfold onI onW
  show (side (scl d l) x y = 0 ∧ (min (l.x0 * d) (l.x1 * d) ≤ x ∧ x ≤ max (l.x0 * d) (l.x1 * d)) ∧ (min (l.y0 * d) (l.y1 * d) ≤ y ∧ y ≤ max (l.y0 * d) (l.y1 * d))) ↔ _
  rw [min_mul_pos hd, max_mul_pos hd, min_mul_pos hd, max_mul_pos hd]
  have e : side (scl d l) x y = d * (l.dx * (y - d * l.y0) - l.dy * (x - d * l.x0)) := by
    unfold side scl Ln.dx Ln.dy
    dsimp only
    grind
  rw [e, eq0_iff (by omega)]
theorem le_mul_pos {a b g : Int} (hg : 0 < g) : g * a ≤ g * b ↔ a ≤ b := ⟨fun h => Int.le_of_mul_le_mul_left h hg, fun h => Int.mul_le_mul_of_nonneg_left h (Int.le_of_lt hg)⟩
theorem onW_mul {g d x y : Int} (hg : 0 < g) (l : Ln) : onW (g * d) (g * x) (g * y) l ↔ onW d x y l := by
  unfold onW
  have e : l.dx * (g * y - g * d * l.y0) - l.dy * (g * x - g * d * l.x0) = g * (l.dx * (y - d * l.y0) - l.dy * (x - d * l.x0)) := by grind
  rw [e, eq0_iff (by omega), Int.mul_assoc, Int.mul_assoc, Int.mul_assoc, Int.mul_assoc, le_mul_pos hg, le_mul_pos hg, le_mul_pos hg, le_mul_pos hg]
theorem one_eq {α : Type} {l : List α} (h : l.length = 1) {a b : α} (ha : a ∈ l) (hb : b ∈ l) : a = b := by
  obtain ⟨x, rfl⟩ := List.length_eq_one_iff.mp h
  rw [List.mem_singleton.mp ha, List.mem_singleton.mp hb]
theorem filter_only {n w : Nat} {p : Nat → Bool} (hw : w < n) (hp : p w = true) (h : ∀ i, i < n → p i = true → i = w) : (List.range n).filter p = [w] := by
  have go : ∀ n, (List.range n).filter (fun i => decide (i = w)) = if w < n then [w] else [] := fun n => by
    induction n with
    | zero => rw [if_neg (Nat.not_lt_zero _)]; rfl
    | succ n ih =>
      rw [List.range_succ, List.filter_append, ih]
      by_cases q : n = w
      · rw [if_neg (by omega), if_pos (by omega)]
        simp [q]
      · by_cases r : w < n
        · rw [if_pos r, if_pos (by omega)]
          simp [q]
        · rw [if_neg r, if_neg (by omega)]
          simp [q]
  have e : (List.range n).filter p = (List.range n).filter (fun i => decide (i = w)) := List.filter_congr fun i hi => by
    rw [List.mem_range] at hi
    by_cases q : i = w
    · rw [q, hp]; simp
    · cases e : p i with
      | false => rw [decide_eq_false q]
      | true => exact absurd (h i hi e) q
  rw [e, go, if_pos hw]
section
variable {ns : List Int} {px py pz qx qy qz N D : Int}
/-- at a line's end another line is, too -/
theorem end_two {r : Room} (G : Good r) {w : Nat} (hw : w < r.n) {v : Pt} (h : isEnd (r.line w) v = true) : ∃ j, j < r.n ∧ j ≠ w ∧ onLine (r.line j) v = true := by
  have n3 := G.n3
  unfold isEnd at h
  rw [Bool.or_eq_true, Bool.and_eq_true, Bool.and_eq_true, beq_iff_eq, beq_iff_eq, beq_iff_eq, beq_iff_eq] at h
  rcases h with ⟨a, b⟩ | ⟨a, b⟩
  · obtain ⟨i, hi, ei⟩ := prev_ix hw
    refine ⟨i, hi, fun z => ?_, ?_⟩
    · rw [z] at ei
      by_cases q : w + 1 < r.n
      · rw [Nat.mod_eq_of_lt q] at ei
        omega
      · rw [show w + 1 = r.n by omega, Nat.mod_self] at ei
        omega
    · have e : (r.line i).2 = (r.line w).1 := by rw [line_ends, ← line_mod r (i + 1), ei]
      rw [onLine_plan (w := (r.line i).2) (by rw [e]; exact a) (by rw [e]; exact b)]
      exact end_on _
  · refine ⟨(w + 1) % r.n, Nat.mod_lt _ (by omega), fun z => ?_, ?_⟩
    · by_cases q : w + 1 < r.n
      · rw [Nat.mod_eq_of_lt q] at z
        omega
      · rw [show w + 1 = r.n by omega, Nat.mod_self] at z
        omega
    · rw [line_mod, onLine_plan (w := (r.line (w + 1)).1) (by rw [← line_ends]; exact a) (by rw [← line_ends]; exact b)]
      exact start_on _
/-- the place is in the room's box -/
theorem place_box (h : faultM ns = none) (hp : insideI (linesM ns) (at_ ns 0) px py pz = true) (F : IsFirst (linesM ns) (at_ ns 0) px py pz qx qy qz N D) : (0 ≤ plX px qx N D ∧ plX px qx N D ≤ 4095 * D) ∧ (0 ≤ plX py qy N D ∧ plX py qy N D ≤ 4095 * D) := by
  have hn : 0 < cnt ns := by have := faultM_whole h; omega
  have d0 := F.d0
  by_cases ex : ∃ w, w < cnt ns ∧ onW D (plX px qx N D) (plX py qy N D) (lnAt (linesM ns) w)
  · obtain ⟨w, hw, on⟩ := ex
    obtain ⟨b1, b2, b3, b4⟩ := box_of h hw
    obtain ⟨_, ⟨x1, x2⟩, y1, y2⟩ := on
    have lo : ∀ a b : Int, 0 ≤ a → 0 ≤ b → 0 ≤ D * min a b := fun a b ha hb => Int.mul_nonneg (by omega) (by omega)
    have hi : ∀ a b : Int, a ≤ 4095 → b ≤ 4095 → D * max a b ≤ 4095 * D := fun a b ha hb => by
      rw [Int.mul_comm 4095]
      exact Int.mul_le_mul_of_nonneg_left (by omega) (by omega)
    have := lo _ _ b1.1 b3.1
    have := lo _ _ b2.1 b4.1
    have := hi _ _ b1.2 b3.2
    have := hi _ _ b2.2 b4.2
    omega
  · have no : ∀ w, w < cnt ns → ¬ onW D (plX px qx N D) (plX py qy N D) (lnAt (linesM ns) w) := fun w hw on => ex ⟨w, hw, on⟩
    have fM := first_M hn F
    have wi := first_within (good_M h) (within_pt h hp) fM (Rat.le_of_lt (first_pos fM)) (none_M h d0 no)
    have I := inM_M h
    have n0 : 0 < (roomM ns).n := by rw [n_M h]; exact hn
    rw [way_frac _ _ _ _ _ _ _ _ (by omega)] at wi
    refine ⟨⟨?_, ?_⟩, ?_, ?_⟩
    · refine Int.not_lt.mp fun q => ?_
      rw [not_within_far n0 (.inr (.inl fun i hi => ?_))] at wi
      · cases wi
      · show ((plX px qx N D : Int) : Rat) / (D : Rat) < (((roomM ns).corner i).x : Rat)
        rw [frac_lt d0]
        have := Int.mul_nonneg (I.x0 i) (Int.le_of_lt d0)
        omega
    · refine Int.not_lt.mp fun q => ?_
      rw [not_within_far n0 (.inl fun i hi => ?_)] at wi
      · cases wi
      · show (((roomM ns).corner i).x : Rat) < ((plX px qx N D : Int) : Rat) / (D : Rat)
        rw [lt_frac d0]
        have := Int.mul_le_mul_of_nonneg_right (I.x1 i) (Int.le_of_lt d0)
        have e : ((4095 : Nat) : Int) * D = 4095 * D := rfl
        omega
    · refine Int.not_lt.mp fun q => ?_
      rw [not_within_far n0 (.inr (.inr (.inr fun i hi => ?_)))] at wi
      · cases wi
      · show ((plX py qy N D : Int) : Rat) / (D : Rat) < (((roomM ns).corner i).y : Rat)
        rw [frac_lt d0]
        have := Int.mul_nonneg (I.y0 i) (Int.le_of_lt d0)
        omega
    · refine Int.not_lt.mp fun q => ?_
      rw [not_within_far n0 (.inr (.inr (.inl fun i hi => ?_)))] at wi
      · cases wi
      · show (((roomM ns).corner i).y : Rat) ≤ ((plX py qy N D : Int) : Rat) / (D : Rat)
        rw [le_frac d0]
        have := Int.mul_le_mul_of_nonneg_right (I.y1 i) (Int.le_of_lt d0)
        have e : ((4095 : Nat) : Int) * D = 4095 * D := rfl
        omega
/-- the place's walls tell the answer -/
theorem meets_walls (h : faultM ns = none) (hp : insideI (linesM ns) (at_ ns 0) px py pz = true) (hq : ¬ (px = qx ∧ py = qy ∧ pz = qz)) (F : IsFirst (linesM ns) (at_ ns 0) px py pz qx qy qz N D) {g : Int} (G4 : Gcd4 (plX px qx N D) (plX py qy N D) (plX pz qz N D) D g) :
    PyYqbeaa.meets px py pz qx qy qz ns = if (wallsI (linesM ns) (at_ ns 0) (plX px qx N D / g) (plX py qy N D / g) (plX pz qz N D / g) (D / g)).length = 1 then
      0 :: (wallsI (linesM ns) (at_ ns 0) (plX px qx N D / g) (plX py qy N D / g) (plX pz qz N D / g) (D / g) ++ [plX px qx N D / g, plX py qy N D / g, plX pz qz N D / g, D / g]) else [-4] := by
  have hn : 0 < cnt ns := by have := faultM_whole h; omega
  have d0 := F.d0
  have g0 := G4.g0
  have G := good_M h
  have hz := first_z h hp F
  have h1 : 0 < at_ ns 0 := by have := inside_z hp; omega
  have hD : 0 < at_ ns 0 * D := Int.mul_pos h1 d0
  have ed : g * (D / g) = D := Int.mul_ediv_cancel' G4.gw
  have ex : g * (plX px qx N D / g) = plX px qx N D := Int.mul_ediv_cancel' G4.gx
  have ey : g * (plX py qy N D / g) = plX py qy N D := Int.mul_ediv_cancel' G4.gy
  have ez : g * (plX pz qz N D / g) = plX pz qz N D := Int.mul_ediv_cancel' G4.gz
  have dg : 0 < D / g := by
    refine Int.not_le.mp fun q => ?_
    have := Int.mul_nonneg (Int.le_of_lt g0) (show 0 ≤ -(D / g) by omega)
    rw [Int.mul_neg, ed] at this
    omega
  have con : ∀ i, common (scl (D / g) (lnAt (linesM ns) i)) ⟨plX px qx N D / g, plX py qy N D / g, plX px qx N D / g, plX py qy N D / g⟩ = decide (onW D (plX px qx N D) (plX py qy N D) (lnAt (linesM ns) i)) := fun i => by
    rw [common_scl dg, Bool.eq_iff_iff, decide_eq_true_eq, decide_eq_true_eq, ← onW_mul g0, ed, ex, ey]
  have z0 : (plX pz qz N D / g = 0) ↔ plX pz qz N D = 0 := by
    constructor
    · intro q
      rw [← ez, q, Int.mul_zero]
    · intro q
      rw [q, Int.zero_ediv]
  have zh : (plX pz qz N D / g = at_ ns 0 * (D / g)) ↔ plX pz qz N D = at_ ns 0 * D := by
    constructor
    · intro q
      rw [← ez, q, Int.mul_left_comm, ed]
    · intro q
      have : g * (plX pz qz N D / g) = g * (at_ ns 0 * (D / g)) := by rw [ez, q, Int.mul_left_comm, ed]
      exact Int.eq_of_mul_eq_mul_left (by omega) this
  have ew : wallsI (linesM ns) (at_ ns 0) (plX px qx N D / g) (plX py qy N D / g) (plX pz qz N D / g) (D / g) =
      ((((List.range (cnt ns)).filter fun i => decide (onW D (plX px qx N D) (plX py qy N D) (lnAt (linesM ns) i))).map fun i : Nat => (i : Int)) ++ (if plX pz qz N D = 0 then [(cnt ns : Int)] else [])) ++ (if plX pz qz N D = at_ ns 0 * D then [(cnt ns : Int) + 1] else []) := by
    unfold wallsI
    rw [lines_len]
    congr 1
    · congr 1
      · congr 2
        funext i
        exact con i
      · by_cases q : plX pz qz N D = 0
        · rw [if_pos q, if_pos (z0.mpr q)]
        · rw [if_neg q, if_neg (fun y => q (z0.mp y))]
    · by_cases q : plX pz qz N D = at_ ns 0 * D
      · rw [if_pos q, if_pos (zh.mpr q)]
      · rw [if_neg q, if_neg (fun y => q (zh.mp y))]
  rw [ew]
  have memL : ∀ {i : Nat}, i < cnt ns → onW D (plX px qx N D) (plX py qy N D) (lnAt (linesM ns) i) → (i : Int) ∈ ((((List.range (cnt ns)).filter fun i => decide (onW D (plX px qx N D) (plX py qy N D) (lnAt (linesM ns) i))).map fun i : Nat => (i : Int)) ++ (if plX pz qz N D = 0 then [(cnt ns : Int)] else [])) ++ (if plX pz qz N D = at_ ns 0 * D then [(cnt ns : Int) + 1] else []) := fun {i} hi on =>
    List.mem_append_left _ (List.mem_append_left _ (List.mem_map.mpr ⟨i, List.mem_filter.mpr ⟨List.mem_range.mpr hi, decide_eq_true on⟩, rfl⟩))
  by_cases ln : ∃ w, w < cnt ns ∧ onW D (plX px qx N D) (plX py qy N D) (lnAt (linesM ns) w)
  · obtain ⟨w, hw, on⟩ := ln
    by_cases edge : endW D (plX px qx N D) (plX py qy N D) (lnAt (linesM ns) w) ∨ ¬ (0 < plX pz qz N D ∧ plX pz qz N D < at_ ns 0 * D)
    · rw [meets_edge h hp hq F hw on edge, if_neg fun len => ?_]
      rcases edge with q | q
      · obtain ⟨j, hj, ne, onj⟩ := end_two G (w := w) (by rw [n_M h]; exact hw) (v := onWay ⟨px, py, pz⟩ ⟨qx, qy, qz⟩ ((N : Rat) / (D : Rat))) (by rw [end_M h d0 hw]; exact decide_eq_true q)
        rw [n_M h] at hj
        rw [on_M h d0 hj] at onj
        have := one_eq len (memL hj (of_decide_eq_true onj)) (memL hw on)
        exact ne (by omega)
      · by_cases y : plX pz qz N D = 0
        · have := one_eq len (memL hw on) (b := (cnt ns : Int)) (List.mem_append_left _ (List.mem_append_right _ (by rw [if_pos y]; exact List.mem_singleton_self _)))
          omega
        · have y' : plX pz qz N D = at_ ns 0 * D := by omega
          have := one_eq len (memL hw on) (b := (cnt ns : Int) + 1) (List.mem_append_right _ (by rw [if_pos y']; exact List.mem_singleton_self _))
          omega
    · have ne : ¬ endW D (plX px qx N D) (plX py qy N D) (lnAt (linesM ns) w) := fun q => edge (.inl q)
      have zz : 0 < plX pz qz N D ∧ plX pz qz N D < at_ ns 0 * D := Classical.byContradiction fun q => edge (.inr q)
      have fl : ((List.range (cnt ns)).filter fun i => decide (onW D (plX px qx N D) (plX py qy N D) (lnAt (linesM ns) i))) = [w] := filter_only hw (decide_eq_true on) fun i hi oi => by
        refine Classical.byContradiction fun q => ?_
        have o1 := on_M (px := px) (py := py) (pz := pz) (qx := qx) (qy := qy) (qz := qz) (N := N) h d0 hw
        have o2 := on_M (px := px) (py := py) (pz := pz) (qx := qx) (qy := qy) (qz := qz) (N := N) h d0 hi
        rw [decide_eq_true on] at o1
        rw [oi] at o2
        have := (two_lines G (by rw [n_M h]; exact hw) (by rw [n_M h]; exact hi) (fun z => q z.symm) o1 o2).1
        rw [end_M h d0 hw] at this
        exact ne (of_decide_eq_true this)
      rw [meets_side h hp hq F hw on ne zz.1 zz.2 G4, fl, if_neg (show ¬ plX pz qz N D = 0 by omega), if_neg (show ¬ plX pz qz N D = at_ ns 0 * D by omega)]
      rfl
  · have no : ∀ w, w < cnt ns → ¬ onW D (plX px qx N D) (plX py qy N D) (lnAt (linesM ns) w) := fun w hw on => ln ⟨w, hw, on⟩
    have fl : ((List.range (cnt ns)).filter fun i => decide (onW D (plX px qx N D) (plX py qy N D) (lnAt (linesM ns) i))) = [] := by
      rw [List.filter_eq_nil_iff]
      intro i hi
      rw [decide_eq_true_eq]
      exact no i (List.mem_range.mp hi)
    rw [fl]
    obtain ⟨w, a, hw, e, ea⟩ := F.ex
    rw [lines_len] at hw
    unfold hitW at e
    rw [lines_len] at e
    by_cases c : w < cnt ns
    · rw [if_pos c] at e
      exact absurd (hit_on h c e d0 ea) (no w c)
    · rw [if_neg c] at e
      have iz := inside_z hp
      by_cases f : w = cnt ns
      · rw [if_pos f] at e
        obtain ⟨_, k⟩ := hitF_floor iz.1 e
        rw [k] at ea
        have ea : pz * D = N * (pz - qz) := ea
        have hz0 : plX pz qz N D = 0 := by
          show pz * D + N * (qz - pz) = 0
          grind
        rw [meets_floor h hp hq F no hz0 G4, if_pos hz0, if_neg (show ¬ plX pz qz N D = at_ ns 0 * D by omega)]
        rfl
      · rw [if_neg f] at e
        obtain ⟨_, k⟩ := hitF_ceil iz.2 e
        rw [k] at ea
        have ea : (at_ ns 0 - pz) * D = N * (at_ ns 0 - pz - (at_ ns 0 - qz)) := ea
        have hz1 : plX pz qz N D = at_ ns 0 * D := by
          show pz * D + N * (qz - pz) = at_ ns 0 * D
          grind
        rw [meets_ceiling h hp hq F no hz1 G4, if_neg (show ¬ plX pz qz N D = 0 by omega), if_pos hz1]
        rfl
/-- what the program answers -/
def meetsP (px py pz qx qy qz : Int) (ns : List Int) : List Int := match faultM ns with
  | some p => [-5, (p.1 : Int), (p.2 : Int)]
  | none => if placeI (linesM ns) (at_ ns 0) px py pz = 2 ∧ ¬ (px = qx ∧ py = qy ∧ pz = qz) then
      (match stopI (pairsI (linesM ns) (at_ ns 0) px py pz qx qy qz) with
      | none => []
      | some f =>
        let P := placeL px py pz qx qy qz f
        let W := wallsI (linesM ns) (at_ ns 0) (P.getD 0 0) (P.getD 1 0) (P.getD 2 0) (P.getD 3 0)
        if W.length = 1 then 0 :: (W ++ P) else [-4])
    else [-3]
theorem meets_P (px py pz qx qy qz : Int) (ns : List Int) : PyYqbeaa.meets px py pz qx qy qz ns = meetsP px py pz qx qy qz ns := by
  unfold meetsP
  cases h : faultM ns with
  | some p => exact meets_fault px py pz qx qy qz h
  | none =>
    show _ = if placeI (linesM ns) (at_ ns 0) px py pz = 2 ∧ ¬ (px = qx ∧ py = qy ∧ pz = qz) then _ else _
    by_cases c : placeI (linesM ns) (at_ ns 0) px py pz = 2 ∧ ¬ (px = qx ∧ py = qy ∧ pz = qz)
    · rw [if_pos c]
      have hp := (place_two ns (at_ ns 0) px py pz).mp c.1
      obtain ⟨f, ef, F⟩ := stop_first h hp c.2
      rw [ef]
      have eX : ∀ p q : Int, p * f.2 + (q - p) * f.1 = plX p q f.1 f.2 := fun p q => by
        show p * f.2 + (q - p) * f.1 = p * f.2 + f.1 * (q - p)
        rw [Int.mul_comm f.1]
      have k := meets_walls h hp c.2 F (gcd4_ok F.d0)
      have eP : placeL px py pz qx qy qz f = [plX px qx f.1 f.2 / gcd4I (plX px qx f.1 f.2) (plX py qy f.1 f.2) (plX pz qz f.1 f.2) f.2, plX py qy f.1 f.2 / gcd4I (plX px qx f.1 f.2) (plX py qy f.1 f.2) (plX pz qz f.1 f.2) f.2, plX pz qz f.1 f.2 / gcd4I (plX px qx f.1 f.2) (plX py qy f.1 f.2) (plX pz qz f.1 f.2) f.2, f.2 / gcd4I (plX px qx f.1 f.2) (plX py qy f.1 f.2) (plX pz qz f.1 f.2) f.2] := by
        show [(px * f.2 + (qx - px) * f.1) / gcd4I (px * f.2 + (qx - px) * f.1) (py * f.2 + (qy - py) * f.1) (pz * f.2 + (qz - pz) * f.1) f.2, (py * f.2 + (qy - py) * f.1) / gcd4I (px * f.2 + (qx - px) * f.1) (py * f.2 + (qy - py) * f.1) (pz * f.2 + (qz - pz) * f.1) f.2, (pz * f.2 + (qz - pz) * f.1) / gcd4I (px * f.2 + (qx - px) * f.1) (py * f.2 + (qy - py) * f.1) (pz * f.2 + (qz - pz) * f.1) f.2, f.2 / gcd4I (px * f.2 + (qx - px) * f.1) (py * f.2 + (qy - py) * f.1) (pz * f.2 + (qz - pz) * f.1) f.2] = _
        rw [eX, eX, eX]
      rw [k]
      show _ = (if (wallsI (linesM ns) (at_ ns 0) ((placeL px py pz qx qy qz f).getD 0 0) ((placeL px py pz qx qy qz f).getD 1 0) ((placeL px py pz qx qy qz f).getD 2 0) ((placeL px py pz qx qy qz f).getD 3 0)).length = 1 then 0 :: (wallsI (linesM ns) (at_ ns 0) ((placeL px py pz qx qy qz f).getD 0 0) ((placeL px py pz qx qy qz f).getD 1 0) ((placeL px py pz qx qy qz f).getD 2 0) ((placeL px py pz qx qy qz f).getD 3 0) ++ placeL px py pz qx qy qz f) else [-4])
      rw [eP]
      rfl
    · rw [if_neg c]
      refine meets_out h ?_
      by_cases q : px = qx ∧ py = qy ∧ pz = qz
      · exact .inr q
      · left
        cases e : insideI (linesM ns) (at_ ns 0) px py pz with
        | false => rfl
        | true => exact absurd ⟨(place_two ns (at_ ns 0) px py pz).mpr e, q⟩ c
end
end Rm

set_option maxRecDepth 100000

namespace Rm
open PySem PySem.Spec PyProof.Rows L2
open PySem.W (Codec)
/-! ### defs as they are called -/
structure Df (P : Program) (w : World) (K : PySem.W.Frag) (mg : Str → Option Value) (base : Heap) (k : Nat) (x : Str) (ps : List Str) (sp : Sp) : Prop where
  ex : ∃ (f : Addr) (fd : FuncData), FnOk P w K mg base CX0 k f fd ps sp ∧ mg x = some (.ref f) ∧ PySem.W.keepIn K (.ref f) = true ∧ Binds K fd ps []
theorem pe_df {X : Cx} {k : Nat} {x : Str} {ps : List Str} {sp : Sp} {p pos : Pos} {e : Expr} {es : List Expr} {t : TA} (D : Df X.prog X.w X.K X.mg X.base k x ps sp) (hr : Room k X.A) (hg : Gl X x) (ha : PA X (e :: es) t)
    (hdb : (x == ("__debug__" : Str)) = false := by decide) (he : starEach (e :: es) X.env = (false, eval e X.env) :: starEach es X.env := by rfl) (hpl : (backTo pos (starEach es X.env)).any (·.1) = false := by rfl) :
    PE X (.Call (.Name x p) (e :: es) [] pos) (tCall sp [] E0 t) := by
  obtain ⟨f, fd, F, hm, hk, hb⟩ := D.ex
  exact pe_call F hr hg hm hk hb .nil pass0 ha hdb he hpl
structure Fb (K : PySem.W.Frag) (mg : Str → Option Value) (x : Str) (st : Stmt) (ps : List Str) : Prop where
  ex : ∃ (f : Addr) (fd : FuncData), Fun K x x st f fd ∧ mg x = some (.ref f) ∧ ∀ us : List Value, us.length = ps.length → bindArgs fd ⟨us, []⟩ = pure (ps.zip us)
theorem Fb.of {P : Program} {w : World} {K : PySem.W.Frag} {mg : Str → Option Value} {base : Heap} {x : Str} {st : Stmt} {ps : List Str} {k : Nat} {sp : Sp} (B : Fb K mg x st ps)
    (h : ∀ (f : Addr) (fd : FuncData), Fun K x x st f fd → FnOk P w K mg base CX0 k f fd ps sp) : Df P w K mg base k x ps sp := by
  obtain ⟨f, fd, F, hm, hb⟩ := B.ex
  exact ⟨f, fd, h f fd F, hm, F.kp, .all hb⟩
theorem fb_mk {K : PySem.W.Frag} {h : Heap} {mg : Str → Option Value} {x : Str} {st : Stmt} {ps : List Str} {f : Addr} {oc : Value} {od an : Option Addr} {osl : Array (Option Value)} {kV doc pm cdv ct : Value} (X : K.In h) (G : h.Ns mainGlobals mg)
    (a : PySem.W.nsIn K mainGlobals x = some (some (.ref f))) (l : K.lookup f = some ⟨oc, od, .func (PySem.W.fnOf x x (defArgs st) (defBody st) (defScope st) .none kV doc pm an cdv ct), osl⟩)
    (c : PySem.W.codeIn K cdv x = true) (k : PySem.W.keepIn K (.ref f) = true)
    (b : ∀ us : List Value, us.length = ps.length → bindArgs (PySem.W.fnOf x x (defArgs st) (defBody st) (defScope st) .none kV doc pm an cdv ct) ⟨us, []⟩ = pure (ps.zip us)) : Fb K mg x st ps :=
  ⟨f, _, fun_mk l c k, PySem.W.mg_of X G a, b⟩
theorem Fb.df {P : Program} {w : World} {K : PySem.W.Frag} {mg : Str → Option Value} {base : Heap} {x : Str} {st : Stmt} {N ps : List Str} {k : Nat} {sp : Sp} (B : Fb K mg x st ps) (S : FnScope N ps (defScope st))
    (len : ∀ vs H Q E, sp vs H Q E → vs.length = ps.length)
    (hbody : ∀ (f : Addr) (cdv : Value) (A : Around) (outer : List Env) (s : Shared) (H : Hp) (vs : List V) (Q : VK) (E : XK), L2.Room k (A.deeper (envOfC x (defScope st) s.heap.objs.size f cdv)) → sp vs H Q E →
      ∃ t, PSs (cxOf CX0 P w K mg base N x (defScope st) f cdv A outer s H E).nox (defBody st) t ∧ t { nx := fun _ H' => Q .non H', rt := Q } (start N vs) H) : Df P w K mg base (k + 1) x ps sp := by
  obtain ⟨f, fd, F, hm, hb⟩ := B.ex
  exact ⟨f, fd, F.ok S len (fun cdv A outer s H vs Q E hr h => hbody f cdv A outer s H vs Q E hr h), hm, F.kp, .all hb⟩
/-! ### ends -/
theorem toI {Q : VK} {H : Hp} {i j : Int} (h : Q (.int j) H) (e : i = j) : Q (.int i) H := by rw [e]; exact h
theorem toB {Q : VK} {H : Hp} {i j : Bool} (h : Q (.bl j) H) (e : i = j) : Q (.bl i) H := by rw [e]; exact h
theorem dV {i j : Int} : decide (V.int i = V.int j) = decide (i = j) := by
  rw [Bool.eq_iff_iff, decide_eq_true_eq, decide_eq_true_eq]
  exact ⟨fun e => V.int.inj e, fun e => congrArg V.int e⟩
theorem dB {i j : Bool} : decide (V.bl i = V.bl j) = decide (i = j) := by
  rw [Bool.eq_iff_iff, decide_eq_true_eq, decide_eq_true_eq]
  exact ⟨fun e => V.bl.inj e, fun e => congrArg V.bl e⟩
theorem Same.tupT {K : PySem.W.Frag} {H H' : Hp} {a : Addr} {xs : List V} (e : Same H H') (h : SqT K H a xs) : SqT K H' a xs := by
  rcases h with (h | ⟨o, h⟩) | h
  · exact .inl (.inl (e _ _ h))
  · exact .inl (.inr ⟨o, e _ _ h⟩)
  · exact .inr h
/-- a tuple or a list -/
def SqX (K : PySem.W.Frag) (H : Hp) (a : Addr) (xs : List V) : Prop := SqT K H a xs ∨ SqL K H a xs
theorem SqX.of {K : PySem.W.Frag} {H : Hp} {a : Addr} {xs : List V} (h : H a = some (.tup xs)) : SqX K H a xs := .inl (SqT.of h)
theorem SqX.ofL {K : PySem.W.Frag} {H : Hp} {a : Addr} {xs : List V} (h : H a = some (.lst xs)) : SqX K H a xs := .inr (SqL.of h)
theorem Same.tup {K : PySem.W.Frag} {H H' : Hp} {a : Addr} {xs : List V} (e : Same H H') (h : SqT K H a xs) : SqX K H' a xs := .inl (Same.tupT e h)
def rIxX (K : PySem.W.Frag) : R2 := fun x y H Q => ∃ p xs i v, x = .ref p ∧ y = .int i ∧ SqX K H p xs ∧ atI xs i = some v ∧ Q v H
theorem ix_any {X : Cx} : IxR X (rIxX X.K) := by
  intro value slice pins s σ H x y v u Q I rx ry h hs
  obtain ⟨p, xs, i, z, e1, e2, hq, he, q⟩ := h
  rcases hq with hq | hq
  · exact ix_tup value slice pins s σ H x y v u Q I rx ry ⟨p, xs, i, z, e1, e2, hq, he, q⟩ hs
  · exact ix_list value slice pins s σ H x y v u Q I rx ry ⟨p, xs, i, z, e1, e2, hq, he, q⟩ hs
theorem Same.new {H : Hp} {l : Addr} {o : HO} (h : H l = none) : Same H (upd H l o) := fun b o' e => by
  rw [upd_ne (ne_of_none e h)]
  exact e
/-! ### the request's list -/
theorem at_ns {ns : List Int} {z : Int} {j : Nat} (e : z = (j : Int)) (h : j < ns.length) : atI (ns.map V.int) z = some (.int (at_ ns j)) := by
  refine at_of e ?_
  rw [List.getElem?_map, List.getElem?_eq_getElem h]
  unfold at_
  rw [List.getD_eq_getElem?_getD, List.getElem?_eq_getElem h]
  rfl
/-! ### lines -/
abbrev tupL (l : Ln) : List V := [.int l.x0, .int l.y0, .int l.x1, .int l.y1]
def LnAt (K : PySem.W.Frag) (H : Hp) (p : Addr) (l : Ln) : Prop := SqX K H p (tupL l)
structure LnsAt (K : PySem.W.Frag) (H : Hp) (a : Addr) (ls : List Ln) : Prop where
  ex : ∃ ps : List Addr, SqL K H a (ps.map V.ref) ∧ ps.length = ls.length ∧ ∀ i p, ps[i]? = some p → SqT K H p (tupL (lnAt ls i))
theorem LnsAt.same {K : PySem.W.Frag} {H H' : Hp} {a : Addr} {ls : List Ln} (h : LnsAt K H a ls) (e : Same H H') : LnsAt K H' a ls := by
  obtain ⟨ps, h1, h2, h3⟩ := h.ex
  exact ⟨ps, e.seq h1, h2, fun i p q => Same.tupT e (h3 i p q)⟩
/-- a number of at most n binary digits -/
def Bt (n : Nat) (z : Int) : Prop := Builtin.Int.intBits z ≤ n
theorem Bt.sub {n : Nat} {x y : Int} (hx : Bt n x) (hy : Bt n y) : Bt (n + 1) (x - y) := by
  have := intBits_sub_le hx hy
  rw [Nat.max_self] at this
  exact this
theorem Bt.add {n : Nat} {x y : Int} (hx : Bt n x) (hy : Bt n y) : Bt (n + 1) (x + y) := by
  have := intBits_add_le hx hy
  rw [Nat.max_self] at this
  exact this
theorem Bt.mul {m n : Nat} {x y : Int} (hx : Bt m x) (hy : Bt n y) : Bt (m + n) (x * y) := intBits_mul_le hx hy
theorem Bt.le {m n : Nat} {x : Int} (h : Bt m x) (hn : m ≤ n) : Bt n x := Nat.le_trans h hn
theorem Bt.ok {m n : Nat} {x y : Int} (hx : Bt m x) (hy : Bt n y) (h : m + n ≤ 134217728) : IntMulOk x y := .of_le hx hy h
theorem Bt.small {z : Int} (h : 0 ≤ z ∧ z ≤ 4095) : Bt 300 z := by
  refine intBits_le_iff.mpr (Nat.lt_of_lt_of_le (show z.natAbs < 2 ^ 12 by omega) (Nat.pow_le_pow_right (by decide) (by decide)))
theorem Bt.req {z : Int} (h1 : -115792089237316195423570985008687907853269984665640564039457584007913129639936 ≤ z) (h2 : z ≤ 115792089237316195423570985008687907853269984665640564039457584007913129639935) : Bt 300 z := by
  have e : (115792089237316195423570985008687907853269984665640564039457584007913129639936 : Nat) = 2 ^ 256 := by decide
  refine intBits_le_iff.mpr (Nat.lt_of_lt_of_le (m := 2 ^ 257) ?_ (Nat.pow_le_pow_right (by decide) (by decide)))
  rw [Nat.pow_succ, ← e]
  omega
def Sm (l : Ln) : Prop := Bt 300 l.x0 ∧ Bt 300 l.y0 ∧ Bt 300 l.x1 ∧ Bt 300 l.y1
def Sms (ls : List Ln) : Prop := ∀ i, Sm (lnAt ls i)
theorem Sm.dx {l : Ln} (h : Sm l) : Bt 301 l.dx := h.2.2.1.sub h.1
theorem Sm.dy {l : Ln} (h : Sm l) : Bt 301 l.dy := h.2.2.2.sub h.2.1
theorem Sm.side {l : Ln} (h : Sm l) {x y : Int} (hx : Bt 300 x) (hy : Bt 300 y) : Bt 603 (side l x y) := (h.dx.mul (hy.sub h.2.1)).sub (h.dy.mul (hx.sub h.1))
section
variable {X : Cx}
/-- * of whatever two numbers fit -/
theorem noPl {i j : Int} (h : Bt 300 j) : Builtin.divisionGoesByPylong i j = false := by
  have h2 : j.natAbs < 2 ^ 300 := intBits_le_iff.mp h
  unfold Builtin.divisionGoesByPylong
  rw [Bool.and_eq_false_iff]
  left
  rw [decide_eq_false_iff_not]
  show ¬ (if (j == 0) = true then 0 else j.natAbs.log2 / 30 + 1) > 300
  by_cases z : (j == 0) = true
  · rw [if_pos z]
    decide
  · rw [if_neg z]
    have : j.natAbs.log2 < 300 := by
      rw [Nat.log2_lt (by intro q; rw [beq_iff_eq] at z; omega)]
      exact h2
    omega
theorem op_fdivB : OpR X (binaryOp .FloorDiv) (rI (fun _ j => 0 < j ∧ Bt 300 j) fun i j => .int (i / j)) := opI fun i j _ _ _ _ _ hc q => by
  have h1 : (0 : Int) < j := hc.1
  exact floordiv_int (by omega) (by rw [Int.fdiv_eq_ediv_of_nonneg i (by omega)]; exact q) (.inl (noPl hc.2))
theorem op_mulB : OpR X (binaryOp .Mult) (rI IntMulOk fun i j => .int (i * j)) := opI fun _ _ _ _ _ _ _ hc q => mul_int q hc
end
/-- a search's answer -/
def optV : Option Nat → V
  | none => .non
  | some i => .int (i : Int)
theorem find_none {n : Nat} {p : Nat → Bool} (h : ∀ j, j < n → p j = false) : (List.range n).find? p = none := by
  rw [List.find?_eq_none]
  intro x hx
  rw [List.mem_range] at hx
  rw [h x hx]
  decide
theorem find_some {n i : Nat} {p : Nat → Bool} (hi : i < n) (hp : p i = true) (h : ∀ j, j < i → p j = false) : (List.range n).find? p = some i := by
  cases e : (List.range n).find? p with
  | none =>
    rw [List.find?_eq_none] at e
    exact absurd hp (e i (List.mem_range.mpr hi))
  | some k =>
    have hk : p k = true := List.find?_some e
    obtain ⟨as, bs, e1, e2⟩ := List.find?_eq_some_iff_append.mp e |>.2
    have lt : ¬ k < i := fun q => by rw [h k q] at hk; cases hk
    have le : ¬ i < k := fun q => by
      have ha : i ∈ as := by
        have hlen : as.length = k := by
          have := congrArg (fun l => l[as.length]?) e1
          simp only [List.getElem?_append_right (Nat.le_refl _), Nat.sub_self, List.getElem?_cons_zero] at this
          have hl : as.length < n := by
            have := congrArg List.length e1
            rw [List.length_range, List.length_append, List.length_cons] at this
            omega
          rw [List.getElem?_range hl] at this
          exact Option.some.inj this
        have hg : as[i]? = some i := by
          have := congrArg (fun l => l[i]?) e1
          rw [List.getElem?_range hi, List.getElem?_append_left (by omega)] at this
          exact this.symm
        exact List.mem_of_getElem? hg
      have := e2 i ha
      rw [hp] at this
      cases this
    have : k = i := by omega
    rw [this]
/-- over enumerate(a list that the body leaves as it is) -/
theorem for_enum {K : PySem.W.Frag} {a : Addr} {xs : List V} {g : TG} {tb : TS} {D : Ends} {σ : L2.St} {H : Hp} (Pv : Nat → L2.St → Hp → Prop) (h0 : Pv 0 σ H) (hl : ∀ i σ H, i ≤ xs.length → Pv i σ H → SqL K H a xs)
    (hs : ∀ i x σ H T, xs[i]? = some x → H T = none → Pv i σ H → g (.ref T) σ (upd H T (.tup [.int (i : Nat), x])) fun σ2 H2 => tb { D with nx := Pv (i + 1), ct := Pv (i + 1), bk := D.nx } σ2 H2) (hd : ∀ σ H, Pv xs.length σ H → D.nx σ H) :
    ∃ W : Nat → Nat → L2.St → Hp → Prop, (∃ m, W 0 m σ H) ∧ ∀ i m σ H, W i m σ H →
      ((Ite K a).stop i H ∧ D.nx σ H) ∨ ((Ite K a).go i H ∧ ∃ N : L2.St → Hp → Prop, (∀ σ' H', N σ' H' → ∃ m', m' < m ∧ W (i + 1) m' σ' H') ∧ ∀ x H', (Ite K a).yld i H x H' → g x σ H' fun σ2 H2 => tb { D with nx := N, ct := N, bk := D.nx } σ2 H2) := by
  refine ⟨fun i m σ H => m = xs.length - i ∧ i ≤ xs.length ∧ Pv i σ H, ⟨xs.length, by simp, Nat.zero_le _, h0⟩, ?_⟩
  rintro i m σ H ⟨rfl, hi, p⟩
  have q := hl i σ H hi p
  by_cases hlt : i < xs.length
  · refine .inr ⟨⟨xs, xs[i], q, by simp [hlt]⟩, Pv (i + 1), fun σ' H' p' => ⟨xs.length - (i + 1), by omega, rfl, hlt, p'⟩, fun x H' y => ?_⟩
    obtain ⟨T, x', e1, e2, e3, y⟩ := y
    subst e1 e3
    exact hs i x' σ _ T (y xs q) e2 p
  · have e : i = xs.length := by omega
    subst e
    exact .inl ⟨⟨xs, q, Nat.le_refl _⟩, hd σ H p⟩
end Rm

namespace Rm
open PySem PySem.Spec PyProof.Rows L2
open PySem.W (Codec)
/-! ### the text by places -/
def top (i : Nat) : Stmt := PySem.Challenge.pw_roomacoustics_s06_meets.main.body.getD i (.Pass ⟨0, 0, 0, 0⟩)
abbrev sJudge : Stmt := top 8
abbrev sMeets : Stmt := top 9
abbrev sFf : Stmt := top 10
abbrev sFl : Stmt := top 11
abbrev sCount : Stmt := top 12
abbrev sWhole : Stmt := top 13
abbrev sHead : Stmt := top 14
abbrev sStuff : Stmt := top 15
abbrev sCoord : Stmt := top 16
abbrev sBad : Stmt := top 17
abbrev sLines : Stmt := top 18
abbrev sRx : Stmt := top 19
abbrev sRy : Stmt := top 20
abbrev sStraight : Stmt := top 21
abbrev sDir : Stmt := top 22
abbrev sWrong : Stmt := top 23
abbrev sPar : Stmt := top 24
abbrev sGoing : Stmt := top 25
abbrev sLmet : Stmt := top 26
abbrev sMet : Stmt := top 27
abbrev sCommon : Stmt := top 28
abbrev sOver : Stmt := top 29
abbrev sReach : Stmt := top 30
abbrev sSide : Stmt := top 31
abbrev sArea : Stmt := top 32
abbrev sPlace : Stmt := top 33
abbrev sHeight : Stmt := top 34
abbrev sPlan : Stmt := top 35
abbrev sTouch : Stmt := top 36
abbrev sPass : Stmt := top 37
abbrev sStop : Stmt := top 38
abbrev sDepths : Stmt := top 39
abbrev sNear : Stmt := top 40
abbrev sOnWay : Stmt := top 41
abbrev sGcd : Stmt := top 42
abbrev sWalls : Stmt := top 43
abbrev sOnLn : Stmt := top 44
/-! ### what each def promises -/
def spList (K : PySem.W.Frag) (C : List Int → Prop) (g : List Int → V) : Sp := fun vs H Q _ => ∃ (a : Addr) (ns : List Int), vs = [.ref a] ∧ SqL K H a (ns.map V.int) ∧ C ns ∧ Q (g ns) H
def spInt (g : Int → V) : Sp := fun vs H Q _ => ∃ z : Int, vs = [.int z] ∧ Q (g z) H
def spLn (K : PySem.W.Frag) (g : Ln → V) : Sp := fun vs H Q _ => ∃ (p : Addr) (l : Ln), vs = [.ref p] ∧ LnAt K H p l ∧ Q (g l) H
def spLn2 (K : PySem.W.Frag) (g : Ln → Ln → V) : Sp := fun vs H Q _ => ∃ (p : Addr) (l : Ln) (p' : Addr) (l' : Ln), vs = [.ref p, .ref p'] ∧ LnAt K H p l ∧ LnAt K H p' l' ∧ Sm l ∧ Sm l' ∧ Q (g l l') H
def spSide (K : PySem.W.Frag) : Sp := fun vs H Q _ => ∃ (p : Addr) (l : Ln) (x y : Int), vs = [.ref p, .int x, .int y] ∧ LnAt K H p l ∧ Sm l ∧ Bt 300 x ∧ Bt 300 y ∧ Q (.int (side l x y)) H
def spOver (K : PySem.W.Frag) : Sp := fun vs H Q _ => ∃ (p : Addr) (l : Ln) (p' : Addr) (l' : Ln), LnAt K H p l ∧ LnAt K H p' l' ∧ ((vs = [.ref p, .ref p', .int 0] ∧ Q (.bl (overX l l')) H) ∨ (vs = [.ref p, .ref p', .int 1] ∧ Q (.bl (overY l l')) H))
/-- a search over lines -/
def spLns (K : PySem.W.Frag) (g : List Ln → V) : Sp := fun vs H Q _ => ∃ (a : Addr) (ls : List Ln), vs = [.ref a] ∧ LnsAt K H a ls ∧ Sms ls ∧ ls.length ≤ 64 ∧ ∀ H', Same H H' → Q (g ls) H'
def spMet (K : PySem.W.Frag) : Sp := fun vs H Q _ => ∃ (a : Addr) (ls : List Ln) (i : Nat), vs = [.ref a, .int (i : Int)] ∧ LnsAt K H a ls ∧ Sms ls ∧ i < ls.length ∧ ls.length ≤ 64 ∧ ∀ H', Same H H' → Q (.bl (isMet ls i)) H'
def spLines (K : PySem.W.Frag) : Sp := fun vs H Q _ => ∃ (a : Addr) (ns : List Int), vs = [.ref a] ∧ SqL K H a (ns.map V.int) ∧ whole ns = true ∧ ∀ (H' : Hp) (b : Addr), Same H H' → LnsAt K H' b (linesM ns) → Q (.ref b) H'
def FaultV (H : Hp) (v : V) : Option (Nat × Nat) → Prop
  | none => v = .non
  | some q => ∃ p, v = .ref p ∧ H p = some (.lst [.int (q.1 : Int), .int (q.2 : Int)])
def spFaultL (K : PySem.W.Frag) : Sp := fun vs H Q _ => ∃ (a : Addr) (ls : List Ln), vs = [.ref a] ∧ LnsAt K H a ls ∧ Sms ls ∧ ls.length ≤ 64 ∧ ∀ H' v, Same H H' → FaultV H' v (faultL ls) → Q v H'
def spFault (K : PySem.W.Frag) : Sp := fun vs H Q _ => ∃ (a : Addr) (ns : List Int), vs = [.ref a] ∧ SqL K H a (ns.map V.int) ∧ ns.length ≤ 1000 ∧ ∀ H' v, Same H H' → FaultV H' v (faultM ns) → Q v H'
def spJudge (K : PySem.W.Frag) : Sp := fun vs H Q _ => ∃ (a : Addr) (ns : List Int), vs = [.ref a] ∧ SqL K H a (ns.map V.int) ∧ ns.length ≤ 1000 ∧ ∀ (H' : Hp) (p : Addr), Same H H' → H' p = some (.lst ((judgeM ns).map V.int)) → Q (.ref p) H'
/-- what the top has written, besides the defs -/
structure Tx (mg : Str → Option Value) : Prop where
  len : mg "len" = none
  range : mg "range" = none
  abs : mg "abs" = none
  min : mg "min" = none
  max : mg "max" = none
  sum : mg "sum" = none
  enum : mg "enumerate" = none
  fewest : ∃ t, mg "FEWEST_CORNERS" = some (.int 3 t)
  most : ∃ t, mg "MOST_CORNERS" = some (.int 64 t)
  far : ∃ t, mg "LARGEST_LENGTH" = some (.int 4095 t)
  stuff : ∃ t, mg "LARGEST_STUFF" = some (.int 7 t)
section
variable {P : Program} {w : World} {K : PySem.W.Frag} {mg : Str → Option Value} {base : Heap}
/-! ### one theorem a def -/
theorem sc_rx : FnScope ["line"] ["line"] (defScope sRx) := ⟨rfl, rfl, rfl, by decide +kernel, rfl, by decide +kernel, by decide +kernel⟩
theorem ok_rx (B : Fb K mg "run_along_x" sRx ["line"]) : Df P w K mg base 1 "run_along_x" ["line"] (spLn K fun l => .int l.dx) := by
  refine B.df sc_rx (fun vs H Q E h => ?_) (fun f cdv A outer s H vs Q E hr h => ?_)
  · obtain ⟨p, l, rfl, _⟩ := h
    rfl
  · obtain ⟨p, l, rfl, hp, k⟩ := h
    refine ⟨_, pss_one (ps_ret (pe_op op_sub (pe_ix ix_any (pv 0) pe_int (fun _ _ => rfl)) (pe_ix ix_any (pv 0) pe_int (fun _ _ => rfl)))), ?_⟩
    exact ⟨_, rfl, p, _, _, _, rfl, rfl, hp, rfl, _, rfl, p, _, _, _, rfl, rfl, hp, rfl, _, _, rfl, rfl, k⟩
theorem sc_ry : FnScope ["line"] ["line"] (defScope sRy) := ⟨rfl, rfl, rfl, by decide +kernel, rfl, by decide +kernel, by decide +kernel⟩
theorem ok_ry (B : Fb K mg "run_along_y" sRy ["line"]) : Df P w K mg base 1 "run_along_y" ["line"] (spLn K fun l => .int l.dy) := by
  refine B.df sc_ry (fun vs H Q E h => ?_) (fun f cdv A outer s H vs Q E hr h => ?_)
  · obtain ⟨p, l, rfl, _⟩ := h
    rfl
  · obtain ⟨p, l, rfl, hp, k⟩ := h
    refine ⟨_, pss_one (ps_ret (pe_op op_sub (pe_ix ix_any (pv 0) pe_int (fun _ _ => rfl)) (pe_ix ix_any (pv 0) pe_int (fun _ _ => rfl)))), ?_⟩
    exact ⟨_, rfl, p, _, _, _, rfl, rfl, hp, rfl, _, rfl, p, _, _, _, rfl, rfl, hp, rfl, _, _, rfl, rfl, k⟩
theorem sc_str : FnScope ["line"] ["line"] (defScope sStraight) := ⟨rfl, rfl, rfl, by decide +kernel, rfl, by decide +kernel, by decide +kernel⟩
theorem ok_str (B : Fb K mg "is_straight" sStraight ["line"]) (dx : Df P w K mg base 1 "run_along_x" ["line"] (spLn K fun l => .int l.dx)) (dy : Df P w K mg base 1 "run_along_y" ["line"] (spLn K fun l => .int l.dy)) :
    Df P w K mg base 2 "is_straight" ["line"] (spLn K fun l => .bl (straightB l)) := by
  refine B.df sc_str (fun vs H Q E h => ?_) (fun f cdv A outer s H vs Q E hr h => ?_)
  · obtain ⟨p, l, rfl, _⟩ := h
    rfl
  · obtain ⟨p, l, rfl, hp, k⟩ := h
    refine ⟨_, pss_one (ps_ret (pe_or (pe_cmpR op_eq (pe_df dx hr rfl (pa_cons (pv 0) pa_nil)) pe_int (nomark _)) (pe_one (pe_cmpR op_eq (pe_df dy hr rfl (pa_cons (pv 0) pa_nil)) pe_int (nomark _))))), ?_⟩
    refine ⟨_, rfl, p, l, rfl, hp, rfl, _, rfl, ite2 (fun c => ?_) (fun c => ?_)⟩
    · refine toB k ?_
      unfold straightB
      rw [dV.symm.trans c, Bool.true_or]
    · refine ⟨_, rfl, p, l, rfl, hp, rfl, ?_⟩
      refine toB k ?_
      unfold straightB
      rw [dV.symm.trans (Bool.eq_false_iff.mpr c), Bool.false_or, dV]
theorem sc_dir : FnScope ["line", "along_x", "along_y"] ["line"] (defScope sDir) := ⟨rfl, rfl, rfl, by decide +kernel, rfl, by decide +kernel, by decide +kernel⟩
theorem ok_dir (T : Tx mg) (B : Fb K mg "has_direction" sDir ["line"]) (dx : Df P w K mg base 1 "run_along_x" ["line"] (spLn K fun l => .int l.dx)) (dy : Df P w K mg base 1 "run_along_y" ["line"] (spLn K fun l => .int l.dy))
    (st : Df P w K mg base 2 "is_straight" ["line"] (spLn K fun l => .bl (straightB l))) :
    Df P w K mg base 3 "has_direction" ["line"] (spLn K fun l => .bl (hasDir l)) := by
  refine B.df sc_dir (fun vs H Q E h => ?_) (fun f cdv A outer s H vs Q E hr h => ?_)
  · obtain ⟨p, l, rfl, _⟩ := h
    rfl
  · obtain ⟨p, l, rfl, hp, k⟩ := h
    have hr1 := hr.mono (show 1 ≤ 2 by decide)
    refine ⟨_, pss_cons (ps_set (i := 1) sc_dir.nd rfl (Or.inl rfl) (pe_callB call_abs rfl T.abs boot_abs (pa_cons (pe_df dx hr1 rfl (pa_cons (pv 0) pa_nil)) pa_nil)))
      (pss_cons (ps_set (i := 2) sc_dir.nd rfl (Or.inl rfl) (pe_callB call_abs rfl T.abs boot_abs (pa_cons (pe_df dy hr1 rfl (pa_cons (pv 0) pa_nil)) pa_nil)))
      (pss_one (ps_ret (pe_and (pe_cmpR op_gt (pe_op op_add (pv 1) (pv 2)) pe_int (nomark _)) (pe_one (pe_or (pe_df st hr rfl (pa_cons (pv 0) pa_nil)) (pe_one (pe_cmpR op_eq (pv 1) (pv 2) (nomark _))))))))), ?_⟩
    refine ⟨_, rfl, p, l, rfl, hp, _, rfl, _, rfl, p, l, rfl, hp, _, rfl, _, rfl, _, rfl, _, _, rfl, rfl, _, _, rfl, rfl, _, rfl, ite2 (fun c => ?_) (fun c => ?_)⟩
    · refine ⟨_, rfl, p, l, rfl, hp, _, rfl, ite2 (fun c2 => ?_) (fun c2 => ?_)⟩
      · refine toB k ?_
        unfold hasDir
        rw [show decide (0 < absI l.dx + absI l.dy) = true from c, c2]
        rfl
      · refine ⟨_, rfl, _, rfl, rfl, ?_⟩
        refine toB k ?_
        unfold hasDir
        rw [show decide (0 < absI l.dx + absI l.dy) = true from c, Bool.eq_false_iff.mpr c2, Bool.true_and, Bool.false_or]
        exact dV
    · refine toB k ?_
      unfold hasDir
      rw [show decide (0 < absI l.dx + absI l.dy) = false from Bool.eq_false_iff.mpr c]
      rfl
theorem sc_par : FnScope ["one", "other"] ["one", "other"] (defScope sPar) := ⟨rfl, rfl, rfl, by decide +kernel, rfl, by decide +kernel, by decide +kernel⟩
theorem ok_par (B : Fb K mg "are_parallel" sPar ["one", "other"]) (dx : Df P w K mg base 1 "run_along_x" ["line"] (spLn K fun l => .int l.dx)) (dy : Df P w K mg base 1 "run_along_y" ["line"] (spLn K fun l => .int l.dy)) :
    Df P w K mg base 2 "are_parallel" ["one", "other"] (spLn2 K fun l l' => .bl (par l l')) := by
  refine B.df sc_par (fun vs H Q E h => ?_) (fun f cdv A outer s H vs Q E hr h => ?_)
  · obtain ⟨p, l, p', l', rfl, _⟩ := h
    rfl
  · obtain ⟨p, l, p', l', rfl, hp, hp', sm, sm', k⟩ := h
    refine ⟨_, pss_one (ps_ret (pe_cmpR op_eq (pe_op op_mulB (pe_df dx hr rfl (pa_cons (pv 0) pa_nil)) (pe_df dy hr rfl (pa_cons (pv 1) pa_nil))) (pe_op op_mulB (pe_df dy hr rfl (pa_cons (pv 0) pa_nil)) (pe_df dx hr rfl (pa_cons (pv 1) pa_nil))) (nomark _))), ?_⟩
    refine ⟨_, rfl, p, l, rfl, hp, _, rfl, p', l', rfl, hp', _, _, rfl, rfl, sm.dx.ok sm'.dy (by decide), _, rfl, p, l, rfl, hp, _, rfl, p', l', rfl, hp', _, _, rfl, rfl, sm.dy.ok sm'.dx (by decide), rfl, ?_⟩
    exact toB k dV
theorem sc_side : FnScope ["line", "x", "y"] ["line", "x", "y"] (defScope sSide) := ⟨rfl, rfl, rfl, by decide +kernel, rfl, by decide +kernel, by decide +kernel⟩
theorem ok_side (B : Fb K mg "side_of" sSide ["line", "x", "y"]) (dx : Df P w K mg base 1 "run_along_x" ["line"] (spLn K fun l => .int l.dx)) (dy : Df P w K mg base 1 "run_along_y" ["line"] (spLn K fun l => .int l.dy)) :
    Df P w K mg base 2 "side_of" ["line", "x", "y"] (spSide K) := by
  refine B.df sc_side (fun vs H Q E h => ?_) (fun f cdv A outer s H vs Q E hr h => ?_)
  · obtain ⟨p, l, x, y, rfl, _⟩ := h
    rfl
  · obtain ⟨p, l, x, y, rfl, hp, sm, hx, hy, k⟩ := h
    refine ⟨_, pss_one (ps_ret (pe_op op_sub (pe_op op_mulB (pe_df dx hr rfl (pa_cons (pv 0) pa_nil)) (pe_op op_sub (pv 2) (pe_ix ix_any (pv 0) pe_int (fun _ _ => rfl)))) (pe_op op_mulB (pe_df dy hr rfl (pa_cons (pv 0) pa_nil)) (pe_op op_sub (pv 1) (pe_ix ix_any (pv 0) pe_int (fun _ _ => rfl)))))), ?_⟩
    refine ⟨_, rfl, p, l, rfl, hp, _, rfl, _, rfl, p, _, _, _, rfl, rfl, hp, rfl, _, _, rfl, rfl, _, _, rfl, rfl, sm.dx.ok (hy.sub sm.2.1) (by decide), _, rfl, p, l, rfl, hp, _, rfl, _, rfl, p, _, _, _, rfl, rfl, hp, rfl, _, _, rfl, rfl, _, _, rfl, rfl, sm.dy.ok (hx.sub sm.1) (by decide), _, _, rfl, rfl, ?_⟩
    exact k
theorem sc_reach : FnScope ["one", "other"] ["one", "other"] (defScope sReach) := ⟨rfl, rfl, rfl, by decide +kernel, rfl, by decide +kernel, by decide +kernel⟩
theorem ok_reach (B : Fb K mg "reaches_across" sReach ["one", "other"]) (sd : Df P w K mg base 2 "side_of" ["line", "x", "y"] (spSide K)) :
    Df P w K mg base 3 "reaches_across" ["one", "other"] (spLn2 K fun l l' => .bl (reach l l')) := by
  refine B.df sc_reach (fun vs H Q E h => ?_) (fun f cdv A outer s H vs Q E hr h => ?_)
  · obtain ⟨p, l, p', l', rfl, _⟩ := h
    rfl
  · obtain ⟨p, l, p', l', rfl, hp, hp', sm, sm', k⟩ := h
    refine ⟨_, pss_one (ps_ret (pe_cmpR op_le (pe_op op_mulB (pe_df sd hr rfl (pa_cons (pv 1) (pa_cons (pe_ix ix_any (pv 0) pe_int (fun _ _ => rfl)) (pa_cons (pe_ix ix_any (pv 0) pe_int (fun _ _ => rfl)) pa_nil))))
      (pe_df sd hr rfl (pa_cons (pv 1) (pa_cons (pe_ix ix_any (pv 0) pe_int (fun _ _ => rfl)) (pa_cons (pe_ix ix_any (pv 0) pe_int (fun _ _ => rfl)) pa_nil))))) pe_int (nomark _))), ?_⟩
    refine ⟨_, rfl, _, rfl, p, _, _, _, rfl, rfl, hp, rfl, _, rfl, p, _, _, _, rfl, rfl, hp, rfl, p', l', _, _, rfl, hp', sm', sm.1, sm.2.1, _, rfl, _, rfl, p, _, _, _, rfl, rfl, hp, rfl, _, rfl, p, _, _, _, rfl, rfl, hp, rfl, p', l', _, _, rfl, hp', sm', sm.2.2.1, sm.2.2.2, _, _, rfl, rfl, (sm'.side sm.1 sm.2.1).ok (sm'.side sm.2.2.1 sm.2.2.2) (by decide), _, _, rfl, rfl, ?_⟩
    exact k
theorem sc_over : FnScope ["one", "other", "axis", "lowest", "highest"] ["one", "other", "axis"] (defScope sOver) := ⟨rfl, rfl, rfl, by decide +kernel, rfl, by decide +kernel, by decide +kernel⟩
theorem ok_over (T : Tx mg) (B : Fb K mg "spans_overlap" sOver ["one", "other", "axis"]) : Df P w K mg base 1 "spans_overlap" ["one", "other", "axis"] (spOver K) := by
  refine B.df sc_over (fun vs H Q E h => ?_) (fun f cdv A outer s H vs Q E hr h => ?_)
  · obtain ⟨p, l, p', l', _, _, ⟨rfl, _⟩ | ⟨rfl, _⟩⟩ := h
    · rfl
    · rfl
  · obtain ⟨p, l, p', l', hp, hp', h⟩ := h
    refine ⟨_, pss_cons (ps_set (i := 3) sc_over.nd rfl (Or.inl rfl) (pe_callB (call_max2 rfl) rfl T.max boot_max (pa_cons
        (pe_callB (call_min2 rfl) rfl T.min boot_min (pa_cons (pe_ix ix_any (pv 0) (pv 2) (fun _ _ => rfl)) (pa_cons (pe_ix ix_any (pv 0) (pe_op op_add (pv 2) pe_int) (fun _ _ => rfl)) pa_nil))) (pa_cons
        (pe_callB (call_min2 rfl) rfl T.min boot_min (pa_cons (pe_ix ix_any (pv 1) (pv 2) (fun _ _ => rfl)) (pa_cons (pe_ix ix_any (pv 1) (pe_op op_add (pv 2) pe_int) (fun _ _ => rfl)) pa_nil))) pa_nil))))
      (pss_cons (ps_set (i := 4) sc_over.nd rfl (Or.inl rfl) (pe_callB (call_min2 rfl) rfl T.min boot_min (pa_cons
        (pe_callB (call_max2 rfl) rfl T.max boot_max (pa_cons (pe_ix ix_any (pv 0) (pv 2) (fun _ _ => rfl)) (pa_cons (pe_ix ix_any (pv 0) (pe_op op_add (pv 2) pe_int) (fun _ _ => rfl)) pa_nil))) (pa_cons
        (pe_callB (call_max2 rfl) rfl T.max boot_max (pa_cons (pe_ix ix_any (pv 1) (pv 2) (fun _ _ => rfl)) (pa_cons (pe_ix ix_any (pv 1) (pe_op op_add (pv 2) pe_int) (fun _ _ => rfl)) pa_nil))) pa_nil))))
      (pss_one (ps_ret (pe_cmpR op_le (pv 3) (pv 4) (nomark _))))), ?_⟩
    rcases h with ⟨rfl, k⟩ | ⟨rfl, k⟩
    · refine ⟨_, rfl, _, rfl, p, _, _, _, rfl, rfl, hp, rfl, _, rfl, _, rfl, _, _, rfl, rfl, p, _, _, _, rfl, rfl, hp, rfl, _, _, rfl,
        _, rfl, _, rfl, p', _, _, _, rfl, rfl, hp', rfl, _, rfl, _, rfl, _, _, rfl, rfl, p', _, _, _, rfl, rfl, hp', rfl, _, _, rfl, _, _, rfl, ?_⟩
      refine ⟨_, rfl, _, rfl, p, _, _, _, rfl, rfl, hp, rfl, _, rfl, _, rfl, _, _, rfl, rfl, p, _, _, _, rfl, rfl, hp, rfl, _, _, rfl,
        _, rfl, _, rfl, p', _, _, _, rfl, rfl, hp', rfl, _, rfl, _, rfl, _, _, rfl, rfl, p', _, _, _, rfl, rfl, hp', rfl, _, _, rfl, _, _, rfl, ?_⟩
      exact ⟨_, rfl, _, rfl, _, _, rfl, rfl, k⟩
    · refine ⟨_, rfl, _, rfl, p, _, _, _, rfl, rfl, hp, rfl, _, rfl, _, rfl, _, _, rfl, rfl, p, _, _, _, rfl, rfl, hp, rfl, _, _, rfl,
        _, rfl, _, rfl, p', _, _, _, rfl, rfl, hp', rfl, _, rfl, _, rfl, _, _, rfl, rfl, p', _, _, _, rfl, rfl, hp', rfl, _, _, rfl, _, _, rfl, ?_⟩
      refine ⟨_, rfl, _, rfl, p, _, _, _, rfl, rfl, hp, rfl, _, rfl, _, rfl, _, _, rfl, rfl, p, _, _, _, rfl, rfl, hp, rfl, _, _, rfl,
        _, rfl, _, rfl, p', _, _, _, rfl, rfl, hp', rfl, _, rfl, _, rfl, _, _, rfl, rfl, p', _, _, _, rfl, rfl, hp', rfl, _, _, rfl, _, _, rfl, ?_⟩
      exact ⟨_, rfl, _, rfl, _, _, rfl, rfl, k⟩
theorem sc_com : FnScope ["one", "other"] ["one", "other"] (defScope sCommon) := ⟨rfl, rfl, rfl, by decide +kernel, rfl, by decide +kernel, by decide +kernel⟩
theorem ok_com (B : Fb K mg "have_common_point" sCommon ["one", "other"]) (ov : Df P w K mg base 1 "spans_overlap" ["one", "other", "axis"] (spOver K)) (rc : Df P w K mg base 3 "reaches_across" ["one", "other"] (spLn2 K fun l l' => .bl (reach l l'))) :
    Df P w K mg base 4 "have_common_point" ["one", "other"] (spLn2 K fun l l' => .bl (common l l')) := by
  refine B.df sc_com (fun vs H Q E h => ?_) (fun f cdv A outer s H vs Q E hr h => ?_)
  · obtain ⟨p, l, p', l', rfl, _⟩ := h
    rfl
  · obtain ⟨p, l, p', l', rfl, hp, hp', sm, sm', k⟩ := h
    have hr1 := hr.mono (show 1 ≤ 3 by decide)
    refine ⟨_, pss_cons (ps_if (pt_not (PW.pt (pw_and (pt_val (pe_df ov hr1 rfl (pa_cons (pv 0) (pa_cons (pv 1) (pa_cons pe_int pa_nil))))) (pw_and1 (pt_val (pe_df ov hr1 rfl (pa_cons (pv 0) (pa_cons (pv 1) (pa_cons pe_int pa_nil)))))))))
        (pss_one (ps_ret pe_bl)) pss_nil)
      (pss_one (ps_ret (pe_and (pe_df rc hr rfl (pa_cons (pv 0) (pa_cons (pv 1) pa_nil))) (pe_one (pe_df rc hr rfl (pa_cons (pv 1) (pa_cons (pv 0) pa_nil))))))), ?_⟩
    refine ⟨_, rfl, _, rfl, p, l, p', l', hp, hp', .inl ⟨rfl, _, rfl, ite2 (fun c1 => ?_) (fun c1 => ?_)⟩⟩
    · refine ⟨_, rfl, _, rfl, p, l, p', l', hp, hp', .inr ⟨rfl, _, rfl, ite2 (fun c2 => ?_) (fun c2 => ?_)⟩⟩
      · refine toB k ?_
        unfold common
        rw [c1, (Bool.not_eq_true' _).mp c2]
        rfl
      · have c2' : overY l l' = true := by
          cases e : overY l l' with
          | true => rfl
          | false => exact absurd (by rw [e]; rfl) c2
        refine ⟨_, rfl, _, rfl, p, l, p', l', rfl, hp, hp', sm, sm', _, rfl, ite2 (fun c3 => ?_) (fun c3 => ?_)⟩
        · refine ⟨_, rfl, _, rfl, p', l', p, l, rfl, hp', hp, sm', sm, ?_⟩
          refine toB k ?_
          unfold common
          rw [c1, c2', c3]
          rfl
        · refine toB k ?_
          unfold common
          rw [c1, c2', Bool.eq_false_iff.mpr c3]
          rfl
    · refine ite2 (fun _ => ?_) (fun z => absurd rfl z)
      refine toB k ?_
      unfold common
      rw [Bool.eq_false_iff.mpr c1]
      rfl
end
end Rm

namespace Rm
open PySem PySem.Spec PyProof.Rows L2
open PySem.W (Codec)
section
variable {X : Cx}
theorem call_lenN : CallR X (.builtin "len") (fun xs H Q => ∃ p ys, ∃ n : Nat, xs = [V.ref p] ∧ SqL X.K H p ys ∧ ys.length = n ∧ Q (.int n) H) := by
  intro pins s σ H xs us Q I r h
  obtain ⟨p, ys, n, e1, e2, e3, q⟩ := h
  subst e3
  exact call_len_seq pins s σ H xs us Q I r ⟨p, ys, e1, .inl e2, q⟩
end
section
variable {P : Program} {w : World} {K : PySem.W.Frag} {mg : Str → Option Value} {base : Heap}
theorem sc_cnt : FnScope ["room"] ["room"] (defScope sCount) := ⟨rfl, rfl, rfl, by decide +kernel, rfl, by decide +kernel, by decide +kernel⟩
theorem ok_cnt (T : Tx mg) (B : Fb K mg "count_corners" sCount ["room"]) : Df P w K mg base 1 "count_corners" ["room"] (spList K (fun ns => 3 ≤ ns.length) fun ns => .int (cnt ns : Int)) := by
  refine B.df sc_cnt (fun vs H Q E h => ?_) (fun f cdv A outer s H vs Q E hr h => ?_)
  · obtain ⟨a, ns, rfl, _⟩ := h
    rfl
  · obtain ⟨a, ns, rfl, hS, h3, k⟩ := h
    refine ⟨_, pss_one (ps_ret (pe_op op_fdiv (pe_op op_sub (pe_callB call_lenN rfl T.len PySem.boot_len (pa_cons (pv 0) pa_nil)) pe_int) pe_int)), ?_⟩
    refine ⟨_, rfl, a, _, ns.length, rfl, hS, List.length_map _, _, _, rfl, rfl, _, _, rfl, rfl, ⟨by decide, by decide⟩, ?_⟩
    refine toI k ?_
    unfold cnt
    omega
theorem sc_stuff : FnScope ["number"] ["number"] (defScope sStuff) := ⟨rfl, rfl, rfl, by decide +kernel, rfl, by decide +kernel, by decide +kernel⟩
theorem ok_stuff (T : Tx mg) (B : Fb K mg "is_stuff" sStuff ["number"]) : Df P w K mg base 1 "is_stuff" ["number"] (spInt fun z => .bl (okStuff z)) := by
  obtain ⟨t, g⟩ := T.stuff
  refine B.df sc_stuff (fun vs H Q E h => ?_) (fun f cdv A outer s H vs Q E hr h => ?_)
  · obtain ⟨z, rfl, _⟩ := h
    rfl
  · obtain ⟨z, rfl, k⟩ := h
    refine ⟨_, pss_one (ps_ret (pe_chain op_le op_le pe_int (pv 0) (pe_glob (v := .int 7) rfl g ⟨_, rfl⟩))), ?_⟩
    refine ⟨_, rfl, _, _, rfl, rfl, _, rfl, ite2 (fun c => ?_) (fun c => ?_)⟩
    · refine ⟨_, _, rfl, rfl, toB k ?_⟩
      unfold okStuff
      rw [c, Bool.true_and]
    · refine toB k ?_
      unfold okStuff
      rw [Bool.eq_false_iff.mpr c, Bool.false_and]
theorem sc_coord : FnScope ["number"] ["number"] (defScope sCoord) := ⟨rfl, rfl, rfl, by decide +kernel, rfl, by decide +kernel, by decide +kernel⟩
theorem ok_coord (T : Tx mg) (B : Fb K mg "is_coordinate" sCoord ["number"]) : Df P w K mg base 1 "is_coordinate" ["number"] (spInt fun z => .bl (okCoord z)) := by
  obtain ⟨t, g⟩ := T.far
  refine B.df sc_coord (fun vs H Q E h => ?_) (fun f cdv A outer s H vs Q E hr h => ?_)
  · obtain ⟨z, rfl, _⟩ := h
    rfl
  · obtain ⟨z, rfl, k⟩ := h
    refine ⟨_, pss_one (ps_ret (pe_chain op_le op_le pe_int (pv 0) (pe_glob (v := .int 4095) rfl g ⟨_, rfl⟩))), ?_⟩
    refine ⟨_, rfl, _, _, rfl, rfl, _, rfl, ite2 (fun c => ?_) (fun c => ?_)⟩
    · refine ⟨_, _, rfl, rfl, toB k ?_⟩
      unfold okCoord
      rw [c, Bool.true_and]
    · refine toB k ?_
      unfold okCoord
      rw [Bool.eq_false_iff.mpr c, Bool.false_and]
theorem sc_whole : FnScope ["room"] ["room"] (defScope sWhole) := ⟨rfl, rfl, rfl, by decide +kernel, rfl, by decide +kernel, by decide +kernel⟩
theorem ok_whole (T : Tx mg) (B : Fb K mg "has_whole_corners" sWhole ["room"]) (cn : Df P w K mg base 1 "count_corners" ["room"] (spList K (fun ns => 3 ≤ ns.length) fun ns => .int (cnt ns : Int))) :
    Df P w K mg base 2 "has_whole_corners" ["room"] (spList K (fun _ => True) fun ns => .bl (whole ns)) := by
  obtain ⟨t1, g1⟩ := T.fewest
  obtain ⟨t2, g2⟩ := T.most
  refine B.df sc_whole (fun vs H Q E h => ?_) (fun f cdv A outer s H vs Q E hr h => ?_)
  · obtain ⟨a, ns, rfl, _⟩ := h
    rfl
  · obtain ⟨a, ns, rfl, hS, _, k⟩ := h
    refine ⟨_, pss_cons (ps_if (PW.pt (pw_or (pt_cmpR op_lt (pe_callB call_lenN rfl T.len PySem.boot_len (pa_cons (pv 0) pa_nil)) pe_int (nomark _)) (pw_or1 (pt_cmpR op_ne (pe_op op_mod (pe_callB call_lenN rfl T.len PySem.boot_len (pa_cons (pv 0) pa_nil)) pe_int) pe_int (nomark _)))))
        (pss_one (ps_ret pe_bl)) pss_nil)
      (pss_one (ps_ret (pe_chain op_le op_le (pe_glob (v := .int 3) rfl g1 ⟨_, rfl⟩) (pe_df cn hr rfl (pa_cons (pv 0) pa_nil)) (pe_glob (v := .int 64) rfl g2 ⟨_, rfl⟩)))), ?_⟩
    refine ⟨_, rfl, a, _, ns.length, rfl, hS, List.length_map _, _, _, rfl, rfl, _, rfl, ite2 (fun c => ?_) (fun c => ?_)⟩
    · refine iteT (toB k ?_)
      rw [decide_eq_true_eq] at c
      unfold whole
      rw [show decide (3 ≤ ns.length) = false by rw [decide_eq_false_iff_not]; omega]
      rfl
    · rw [decide_eq_true_eq] at c
      refine ⟨_, rfl, a, _, ns.length, rfl, hS, List.length_map _, _, _, rfl, rfl, (by show (0 : Int) < 3; decide), rfl, _, rfl, ite2 (fun c2 => ?_) (fun c2 => ?_)⟩
      · refine toB k ?_
        rw [dV, Bool.not_eq_true', decide_eq_false_iff_not] at c2
        unfold whole
        rw [show decide (ns.length % 3 = 0) = false by rw [decide_eq_false_iff_not]; omega]
        simp
      · rw [dV, Bool.not_eq_true', decide_eq_false_iff_not, Decidable.not_not] at c2
        have w1 : whole ns = (decide (3 ≤ cnt ns) && decide (cnt ns ≤ 64)) := by
          unfold whole
          rw [show decide (3 ≤ ns.length) = true by rw [decide_eq_true_eq]; omega, show decide (ns.length % 3 = 0) = true by rw [decide_eq_true_eq]; omega]
          rfl
        refine ⟨_, rfl, a, ns, rfl, hS, by omega, _, _, rfl, rfl, _, rfl, ite2 (fun c3 => ?_) (fun c3 => ?_)⟩
        · refine ⟨_, _, rfl, rfl, toB k ?_⟩
          rw [decide_eq_true_eq] at c3
          rw [w1, show decide (3 ≤ cnt ns) = true by rw [decide_eq_true_eq]; omega, Bool.true_and, Bool.eq_iff_iff, decide_eq_true_eq, decide_eq_true_eq]
          omega
        · refine toB k ?_
          rw [decide_eq_true_eq] at c3
          rw [w1, show decide (3 ≤ cnt ns) = false by rw [decide_eq_false_iff_not]; omega, Bool.false_and]
theorem sc_head : FnScope ["room"] ["room"] (defScope sHead) := ⟨rfl, rfl, rfl, by decide +kernel, rfl, by decide +kernel, by decide +kernel⟩
theorem ok_head (T : Tx mg) (B : Fb K mg "has_sound_head" sHead ["room"]) (st : Df P w K mg base 1 "is_stuff" ["number"] (spInt fun z => .bl (okStuff z))) :
    Df P w K mg base 2 "has_sound_head" ["room"] (spList K (fun ns => 3 ≤ ns.length) fun ns => .bl (head ns)) := by
  obtain ⟨t, g⟩ := T.far
  refine B.df sc_head (fun vs H Q E h => ?_) (fun f cdv A outer s H vs Q E hr h => ?_)
  · obtain ⟨a, ns, rfl, _⟩ := h
    rfl
  · obtain ⟨a, ns, rfl, hS, h3, k⟩ := h
    refine ⟨_, pss_one (ps_ret (pe_and (pe_chain op_le op_le pe_int (pe_ix ix_list (pv 0) pe_int (fun _ _ => rfl)) (pe_glob (v := .int 4095) rfl g ⟨_, rfl⟩))
      (pe_and (pe_df st hr rfl (pa_cons (pe_ix ix_list (pv 0) pe_int (fun _ _ => rfl)) pa_nil)) (pe_one (pe_df st hr rfl (pa_cons (pe_ix ix_list (pv 0) pe_int (fun _ _ => rfl)) pa_nil)))))), ?_⟩
    have a0 : atI (ns.map V.int) 0 = some (.int (at_ ns 0)) := at_ns (j := 0) rfl (by omega)
    have a1 : atI (ns.map V.int) 1 = some (.int (at_ ns 1)) := at_ns (j := 1) rfl (by omega)
    have a2 : atI (ns.map V.int) 2 = some (.int (at_ ns 2)) := at_ns (j := 2) rfl (by omega)
    refine ⟨_, rfl, a, _, _, _, rfl, rfl, hS, a0, _, _, rfl, rfl, _, rfl, ite2 (fun c => ?_) (fun c => ?_)⟩
    · refine ⟨_, _, rfl, rfl, _, rfl, ite2 (fun c2 => ?_) (fun c2 => ?_)⟩
      · refine ⟨_, rfl, a, _, _, _, rfl, rfl, hS, a1, _, rfl, _, rfl, ite2 (fun c3 => ?_) (fun c3 => ?_)⟩
        · refine ⟨_, rfl, a, _, _, _, rfl, rfl, hS, a2, _, rfl, ?_⟩
          refine toB k ?_
          unfold head
          rw [c, c2, c3]
          rfl
        · refine toB k ?_
          unfold head
          rw [c, c2, Bool.eq_false_iff.mpr c3]
          rfl
      · refine toB k ?_
        unfold head
        rw [c, Bool.eq_false_iff.mpr c2]
        rfl
    · refine ⟨_, rfl, iteF (toB k ?_)⟩
      unfold head
      rw [Bool.eq_false_iff.mpr c]
      rfl
theorem sc_bad : FnScope ["room", "i", "at"] ["room"] (defScope sBad) := ⟨rfl, rfl, rfl, by decide +kernel, rfl, by decide +kernel, by decide +kernel⟩
theorem whole_len {ns : List Int} (h : whole ns = true) : ns.length = 3 + 3 * cnt ns ∧ 3 ≤ cnt ns ∧ cnt ns ≤ 64 := by
  unfold whole at h
  simp only [Bool.and_eq_true, decide_eq_true_eq] at h
  unfold cnt at h ⊢
  omega
theorem ok_bad (T : Tx mg) (B : Fb K mg "first_wrong_corner" sBad ["room"]) (cn : Df P w K mg base 1 "count_corners" ["room"] (spList K (fun ns => 3 ≤ ns.length) fun ns => .int (cnt ns : Int)))
    (co : Df P w K mg base 1 "is_coordinate" ["number"] (spInt fun z => .bl (okCoord z))) (st : Df P w K mg base 1 "is_stuff" ["number"] (spInt fun z => .bl (okStuff z))) :
    Df P w K mg base 2 "first_wrong_corner" ["room"] (spList K (fun ns => whole ns = true) fun ns => optV (badCorner ns)) := by
  refine B.df sc_bad (fun vs H Q E h => ?_) (fun f cdv A outer s H vs Q E hr h => ?_)
  · obtain ⟨a, ns, rfl, _⟩ := h
    rfl
  · obtain ⟨a, ns, rfl, hS, hw, k⟩ := h
    have k : Q (optV (badCorner ns)) H := k
    obtain ⟨hl, h3, h64⟩ := whole_len hw
    refine ⟨_, pss_cons (ps_for PassesOwn.never rfl (pi_range1 rfl T.range (pa_cons (pe_df cn hr rfl (pa_cons (pv 0) pa_nil)) pa_nil)) (pg_name (i := 1) sc_bad.nd rfl (Or.inl rfl))
        (pss_cons (ps_set (i := 2) sc_bad.nd rfl (Or.inl rfl) (pe_op op_add pe_int (pe_op op_mul pe_int (pv 1))))
        (pss_one (ps_if (pt_not (PW.pt (pw_and (pt_val (pe_df co hr rfl (pa_cons (pe_ix ix_list (pv 0) (pv 2) (fun _ _ => rfl)) pa_nil)))
            (pw_and (pt_val (pe_df co hr rfl (pa_cons (pe_ix ix_list (pv 0) (pe_op op_add (pv 2) pe_int) (fun _ _ => rfl)) pa_nil)))
            (pw_and1 (pt_val (pe_df st hr rfl (pa_cons (pe_ix ix_list (pv 0) (pe_op op_add (pv 2) pe_int) (fun _ _ => rfl)) pa_nil))))))))
          (pss_one (ps_ret (pv 1))) pss_nil))))
      (pss_one (ps_ret pe_non)), ?_⟩
    refine ⟨_, rfl, a, ns, rfl, hS, by omega, _, rfl, by omega, by omega, for_range (lo := 0) (n := cnt ns) (fun i σ H' => ∃ v1 v2 : Option V, σ = [some (.ref a), v1, v2] ∧ H' = H ∧ ∀ j, j < i → okCorner ns j = true)
      ⟨none, none, rfl, rfl, fun j q => absurd q (Nat.not_lt_zero _)⟩ ?_ ?_⟩
    · rintro i σ H' hi ⟨v1, v2, rfl, rfl, hj⟩
      have go : (okCorner ns i = false → Q (.int (0 + (i : Int))) H') := fun e => by
        have q : badCorner ns = some i := find_some hi (by rw [e]; rfl) (fun j hjj => by rw [hj j hjj]; rfl)
        rw [q] at k
        rw [Int.zero_add]
        exact k
      have nx : okCorner ns i = true → ∀ j, j < i + 1 → okCorner ns j = true := fun e j hjj => by
        by_cases q : j = i
        · rw [q]; exact e
        · exact hj j (by omega)
      refine ⟨_, rfl, _, _, rfl, rfl, .inl ⟨by decide, by decide⟩, _, _, rfl, rfl, ?_⟩
      refine ⟨_, rfl, _, rfl, a, _, _, _, rfl, rfl, hS, at_ns (j := 3 + 3 * i) (by omega) (by omega), _, rfl, _, rfl, ite2 (fun c1 => ?_) (fun c1 => ?_)⟩
      · refine ⟨_, rfl, _, rfl, _, _, rfl, rfl, a, _, _, _, rfl, rfl, hS, at_ns (j := 3 + 3 * i + 1) (by omega) (by omega), _, rfl, _, rfl, ite2 (fun c2 => ?_) (fun c2 => ?_)⟩
        · refine ⟨_, rfl, _, rfl, _, _, rfl, rfl, a, _, _, _, rfl, rfl, hS, at_ns (j := 3 + 3 * i + 2) (by omega) (by omega), _, rfl, _, rfl, ite2 (fun c3 => ?_) (fun c3 => ?_)⟩
          · refine ⟨_, rfl, go ?_⟩
            unfold okCorner
            rw [c1, c2, (Bool.not_eq_true' _).mp c3]
            rfl
          · refine ⟨_, _, rfl, rfl, nx ?_⟩
            unfold okCorner
            rw [c1, c2]
            cases e : okStuff (at_ ns (3 + 3 * i + 2)) with
            | true => rfl
            | false => exact absurd (by rw [e]; rfl) c3
        · refine ite2 (fun _ => ?_) (fun z => absurd rfl z)
          refine ⟨_, rfl, go ?_⟩
          unfold okCorner
          rw [c1, Bool.eq_false_iff.mpr c2]
          rfl
      · refine ite2 (fun _ => ?_) (fun z => absurd rfl z)
        refine ⟨_, rfl, go ?_⟩
        unfold okCorner
        rw [Bool.eq_false_iff.mpr c1]
        rfl
    · rintro σ H' ⟨v1, v2, rfl, rfl, hj⟩
      have q : badCorner ns = none := find_none fun j hjj => by rw [hj j hjj]; rfl
      rw [q] at k
      exact k
theorem sc_lines : FnScope ["room", "corners", "lines", "i", "start", "end"] ["room"] (defScope sLines) := ⟨rfl, rfl, rfl, by decide +kernel, rfl, by decide +kernel, by decide +kernel⟩
theorem ok_lines (T : Tx mg) (B : Fb K mg "lines_of" sLines ["room"]) (cn : Df P w K mg base 1 "count_corners" ["room"] (spList K (fun ns => 3 ≤ ns.length) fun ns => .int (cnt ns : Int))) :
    Df P w K mg base 2 "lines_of" ["room"] (spLines K) := by
  refine B.df sc_lines (fun vs H Q E h => ?_) (fun f cdv A outer s H vs Q E hr h => ?_)
  · obtain ⟨a, ns, rfl, _⟩ := h
    rfl
  · obtain ⟨a, ns, rfl, hS, hw, k⟩ := h
    obtain ⟨hl, h3, h64⟩ := whole_len hw
    refine ⟨_, pss_cons (ps_set (i := 1) sc_lines.nd rfl (Or.inl rfl) (pe_df cn hr rfl (pa_cons (pv 0) pa_nil)))
      (pss_cons (ps_set (i := 2) sc_lines.nd rfl (Or.inl rfl) (pe_lst pa_nil))
      (pss_cons (ps_for PassesOwn.never rfl (pi_range1 rfl T.range (pa_cons (pv 1) pa_nil)) (pg_name (i := 3) sc_lines.nd rfl (Or.inl rfl))
        (pss_cons (ps_set (i := 4) sc_lines.nd rfl (Or.inl rfl) (pe_op op_add pe_int (pe_op op_mul pe_int (pv 3))))
        (pss_cons (ps_set (i := 5) sc_lines.nd rfl (Or.inl rfl) (pe_op op_add pe_int (pe_op op_mul pe_int (pe_op op_mod (pe_op op_add (pv 3) pe_int) (pv 1)))))
        (pss_one (ps_expr (pe_bm PySem.F.plainAttrs_list PySem.F.slot_list_append PySem.F.type_list_append mt_append (pv 2) (pa_cons (pe_tup
          (pa_cons (pe_ix ix_list (pv 0) (pv 4) (fun _ _ => rfl)) (pa_cons (pe_ix ix_list (pv 0) (pe_op op_add (pv 4) pe_int) (fun _ _ => rfl))
          (pa_cons (pe_ix ix_list (pv 0) (pv 5) (fun _ _ => rfl)) (pa_cons (pe_ix ix_list (pv 0) (pe_op op_add (pv 5) pe_int) (fun _ _ => rfl)) pa_nil))))) pa_nil)))))))
      (pss_one (ps_ret (pv 2))))), ?_⟩
    refine ⟨_, rfl, a, ns, rfl, hS, by omega, Nat.zero_le _, fun q hq => ?_⟩
    have s0 : Same H (upd H q (.lst [])) := Same.new hq
    refine ⟨_, rfl, _, rfl, by omega, by omega, for_range (lo := 0) (n := cnt ns) (fun i σ H' => ∃ (v3 v4 v5 : Option V) (ps : List Addr), σ = [some (.ref a), some (.int (cnt ns : Int)), some (.ref q), v3, v4, v5] ∧ Same H H' ∧ H' q = some (.lst (ps.map V.ref)) ∧ ps.length = i ∧
        ∀ j p, ps[j]? = some p → H' p = some (.tup (tupL (wallOf ns (cnt ns) j))))
      ⟨none, none, none, [], rfl, s0, upd_same, rfl, fun j p e => by simp at e⟩ ?_ ?_⟩
    · rintro i σ H' hi ⟨v3, v4, v5, ps, rfl, sH, hq', hps, hall⟩
      have em : ((0 : Int) + (i : Int) + 1) % (cnt ns : Int) = (((i + 1) % cnt ns : Nat) : Int) := by
        rw [Int.zero_add, Int.natCast_emod]
        rfl
      have hm : (i + 1) % cnt ns < cnt ns := Nat.mod_lt _ (by omega)
      have hS' := sH.seq hS
      refine ⟨_, rfl, _, _, rfl, rfl, .inl ⟨by decide, by decide⟩, _, _, rfl, rfl, ?_⟩
      refine ⟨_, rfl, _, _, rfl, rfl, _, rfl, _, _, rfl, rfl, (by show (0 : Int) < (cnt ns : Int); omega), _, _, rfl, rfl, .inl ⟨by decide, by decide⟩, _, _, rfl, rfl, ?_⟩
      refine ⟨_, rfl, .inl ⟨rfl, _, SqL.of hq'⟩, _, rfl, _, rfl, a, _, _, _, rfl, rfl, hS', at_ns (j := 3 + 3 * i) (by omega) (by omega), _, rfl, _, rfl, _, _, rfl, rfl, a, _, _, _, rfl, rfl, hS', at_ns (j := 3 + 3 * i + 1) (by omega) (by omega),
        _, rfl, _, rfl, a, _, _, _, rfl, rfl, hS', at_ns (j := 3 + 3 * ((i + 1) % cnt ns)) (by rw [em]; omega) (by omega), _, rfl, _, rfl, _, _, rfl, rfl, a, _, _, _, rfl, rfl, hS', at_ns (j := 3 + 3 * ((i + 1) % cnt ns) + 1) (by rw [em]; omega) (by omega), (by show 4 ≤ sizeLine; decide), fun t ht => ?_⟩
      have nqt : q ≠ t := ne_of_none hq' ht
      refine ⟨q, _, _, rfl, rfl, (by rw [upd_ne nqt]; exact hq'), (by rw [List.length_map, hps]; exact small1000 (by omega)), ?_⟩
      refine ⟨_, _, _, ps ++ [t], rfl, fun b o e => ?_, ?_, by rw [List.length_append, hps]; rfl, fun j p e => ?_⟩
      · have e' := sH b o e
        rw [upd_ne (fun z => (by rw [z, hq] at e; cases e)), upd_ne (ne_of_none e' ht)]
        exact e'
      · rw [upd_same, List.map_append]
        rfl
      · by_cases hj : j < ps.length
        · rw [List.getElem?_append_left hj] at e
          have e' := hall j p e
          rw [upd_ne (ne_of e' hq' (by intro z; cases z)), upd_ne (ne_of_none e' ht)]
          exact e'
        · have hj2 : j = ps.length := by
            have := (List.getElem?_eq_some_iff.mp e).1
            rw [List.length_append] at this
            simp at this
            omega
          subst hj2
          rw [List.getElem?_append_right (Nat.le_refl _), Nat.sub_self] at e
          have e' : t = p := Option.some.inj e
          subst e'
          rw [upd_ne (Ne.symm nqt), upd_same, hps]
          rfl
    · rintro σ H' ⟨v3, v4, v5, ps, rfl, sH, hq', hps, hall⟩
      refine ⟨_, rfl, k H' q sH ⟨ps, SqL.of hq', ?_, fun i p e => ?_⟩⟩
      · unfold linesM
        rw [hps, List.length_map, List.length_range]
      · have hi : i < cnt ns := by
          have := (List.getElem?_eq_some_iff.mp e).1
          omega
        unfold linesM
        rw [lnAt_map _ _ _ hi]
        exact SqT.of (hall i p e)
end
end Rm

namespace Rm
open PySem PySem.Spec PyProof.Rows L2
open PySem.W (Codec)
section
variable {P : Program} {w : World} {K : PySem.W.Frag} {mg : Str → Option Value} {base : Heap}
theorem ref_at {ps : List Addr} {i : Nat} {x : V} (h : (ps.map V.ref)[i]? = some x) : ∃ p, ps[i]? = some p ∧ x = V.ref p := by
  rw [List.getElem?_map] at h
  cases e : ps[i]? with
  | none =>
    rw [e] at h
    cases h
  | some p =>
    rw [e] at h
    exact ⟨p, rfl, (Option.some.inj h).symm⟩
theorem at_ps {ps : List Addr} {z : Int} {j : Nat} (e : z = (j : Int)) (h : j < ps.length) : ∃ p, ps[j]? = some p ∧ atI (ps.map V.ref) z = some (V.ref p) := by
  refine ⟨ps[j], List.getElem?_eq_getElem h, at_of e ?_⟩
  rw [List.getElem?_map, List.getElem?_eq_getElem h]
  rfl
theorem sc_wrong : FnScope ["lines", "i", "line"] ["lines"] (defScope sWrong) := ⟨rfl, rfl, rfl, by decide +kernel, rfl, by decide +kernel, by decide +kernel⟩
theorem ok_wrong (T : Tx mg) (B : Fb K mg "first_wrong_line" sWrong ["lines"]) (dr : Df P w K mg base 3 "has_direction" ["line"] (spLn K fun l => .bl (hasDir l))) :
    Df P w K mg base 4 "first_wrong_line" ["lines"] (spLns K fun ls => optV (wrongLine ls)) := by
  refine B.df sc_wrong (fun vs H Q E h => ?_) (fun f cdv A outer s H vs Q E hr h => ?_)
  · obtain ⟨a, ls, rfl, _⟩ := h
    rfl
  · obtain ⟨a, ls, rfl, ⟨ps, hS, hl, hat⟩, sm, h64, k⟩ := h
    have k : ∀ H', Same H H' → Q (optV (wrongLine ls)) H' := k
    refine ⟨_, pss_cons (ps_for PassesOwn.never rfl (pi_enum rfl T.enum (pa_cons (pv 0) pa_nil)) (pg_tup rfl (pgs_cons (pg_name (i := 1) sc_wrong.nd rfl (Or.inl rfl)) (pgs_cons (pg_name (i := 2) sc_wrong.nd rfl (Or.inl rfl)) pgs_nil)))
        (pss_one (ps_if (pt_not (pt_val (pe_df dr hr rfl (pa_cons (pv 2) pa_nil)))) (pss_one (ps_ret (pv 1))) pss_nil)))
      (pss_one (ps_ret pe_non)), ?_⟩
    refine ⟨_, rfl, a, _, rfl, hS, for_enum (K := K) (a := a) (xs := ps.map V.ref) (fun i σ H' => ∃ v1 v2 : Option V, σ = [some (.ref a), v1, v2] ∧ Same H H' ∧ ∀ j, j < i → hasDir (lnAt ls j) = true)
      ⟨none, none, rfl, Same.refl H, fun j q => absurd q (Nat.not_lt_zero _)⟩ (fun i σ H' _ ⟨_, _, _, sH, _⟩ => sH.seq hS) ?_ ?_⟩
    · rintro i x σ H' t hx ht ⟨v1, v2, rfl, sH, hj⟩
      obtain ⟨p, hp, rfl⟩ := ref_at hx
      have hi : i < ls.length := by
        have := (List.getElem?_eq_some_iff.mp hp).1
        omega
      have s1 : Same H (upd H' t (.tup [.int (i : Nat), V.ref p])) := sH.trans (Same.new ht)
      refine ⟨t, _, rfl, SqT.of upd_same, rfl, _, _, rfl, _, _, rfl, rfl, ?_⟩
      refine ⟨_, rfl, p, lnAt ls i, rfl, Same.tup s1 (hat i p hp), _, rfl, ite2 (fun c => ?_) (fun c => ?_)⟩
      · refine ⟨_, rfl, ?_⟩
        have q : wrongLine ls = some i := find_some hi c (fun j hjj => by rw [hj j hjj]; rfl)
        have k' := k _ s1
        rw [q] at k'
        exact k'
      · refine ⟨_, _, rfl, s1, fun j hjj => ?_⟩
        by_cases q : j = i
        · rw [q]
          cases e : hasDir (lnAt ls i) with
          | true => rfl
          | false => exact absurd (by rw [e]; rfl) c
        · exact hj j (by omega)
    · rintro σ H' ⟨v1, v2, rfl, sH, hj⟩
      rw [List.length_map] at hj
      have q : wrongLine ls = none := find_none fun j hjj => by rw [hj j (by omega)]; rfl
      have k' := k _ sH
      rw [q] at k'
      exact k'
theorem sc_going : FnScope ["lines", "i", "line"] ["lines"] (defScope sGoing) := ⟨rfl, rfl, rfl, by decide +kernel, rfl, by decide +kernel, by decide +kernel⟩
theorem ok_going (T : Tx mg) (B : Fb K mg "first_line_going_on" sGoing ["lines"]) (pr : Df P w K mg base 2 "are_parallel" ["one", "other"] (spLn2 K fun l l' => .bl (par l l'))) :
    Df P w K mg base 3 "first_line_going_on" ["lines"] (spLns K fun ls => optV (goingOn ls)) := by
  refine B.df sc_going (fun vs H Q E h => ?_) (fun f cdv A outer s H vs Q E hr h => ?_)
  · obtain ⟨a, ls, rfl, _⟩ := h
    rfl
  · obtain ⟨a, ls, rfl, ⟨ps, hS, hl, hat⟩, sm, h64, k⟩ := h
    have k : ∀ H', Same H H' → Q (optV (goingOn ls)) H' := k
    refine ⟨_, pss_cons (ps_for PassesOwn.never rfl (pi_enum rfl T.enum (pa_cons (pv 0) pa_nil)) (pg_tup rfl (pgs_cons (pg_name (i := 1) sc_going.nd rfl (Or.inl rfl)) (pgs_cons (pg_name (i := 2) sc_going.nd rfl (Or.inl rfl)) pgs_nil)))
        (pss_one (ps_if (pt_val (pe_df pr hr rfl (pa_cons (pv 2) (pa_cons (pe_ix ix_list (pv 0) (pe_op op_mod (pe_op op_add (pv 1) pe_int) (pe_callB call_lenN rfl T.len PySem.boot_len (pa_cons (pv 0) pa_nil))) (fun _ _ => rfl)) pa_nil)))) (pss_one (ps_ret (pv 1))) pss_nil)))
      (pss_one (ps_ret pe_non)), ?_⟩
    refine ⟨_, rfl, a, _, rfl, hS, for_enum (K := K) (a := a) (xs := ps.map V.ref) (fun i σ H' => ∃ v1 v2 : Option V, σ = [some (.ref a), v1, v2] ∧ Same H H' ∧ ∀ j, j < i → par (lnAt ls j) (lnAt ls ((j + 1) % ls.length)) = false)
      ⟨none, none, rfl, Same.refl H, fun j q => absurd q (Nat.not_lt_zero _)⟩ (fun i σ H' _ ⟨_, _, _, sH, _⟩ => sH.seq hS) ?_ ?_⟩
    · rintro i x σ H' t hx ht ⟨v1, v2, rfl, sH, hj⟩
      obtain ⟨p, hp, rfl⟩ := ref_at hx
      have hi : i < ls.length := by
        have := (List.getElem?_eq_some_iff.mp hp).1
        omega
      have s1 : Same H (upd H' t (.tup [.int (i : Nat), V.ref p])) := sH.trans (Same.new ht)
      have hm : (i + 1) % ls.length < ls.length := Nat.mod_lt _ (by omega)
      have em : ((i : Int) + 1) % (ls.length : Int) = (((i + 1) % ls.length : Nat) : Int) := by
        rw [Int.natCast_emod]
        rfl
      obtain ⟨p', hp', hat'⟩ := at_ps (ps := ps) (z := ((i : Int) + 1) % (ls.length : Int)) em (by omega)
      refine ⟨t, _, rfl, SqT.of upd_same, rfl, _, _, rfl, _, _, rfl, rfl, ?_⟩
      refine ⟨_, rfl, _, rfl, _, rfl, _, _, rfl, rfl, _, rfl, a, _, ls.length, rfl, s1.seq hS, by rw [List.length_map]; exact hl, _, _, rfl, rfl, (by show (0 : Int) < (ls.length : Int); omega), a, _, _, _, rfl, rfl, s1.seq hS, hat',
        p, lnAt ls i, p', lnAt ls ((i + 1) % ls.length), rfl, Same.tup s1 (hat i p hp), Same.tup s1 (hat _ p' hp'), sm _, sm _, _, rfl, ite2 (fun c => ?_) (fun c => ?_)⟩
      · refine ⟨_, rfl, ?_⟩
        have q : goingOn ls = some i := find_some hi c hj
        have k' := k _ s1
        rw [q] at k'
        exact k'
      · refine ⟨_, _, rfl, s1, fun j hjj => ?_⟩
        by_cases q : j = i
        · rw [q]
          exact Bool.eq_false_iff.mpr c
        · exact hj j (by omega)
    · rintro σ H' ⟨v1, v2, rfl, sH, hj⟩
      rw [List.length_map] at hj
      have q : goingOn ls = none := find_none fun j hjj => hj j (by omega)
      have k' := k _ sH
      rw [q] at k'
      exact k'
theorem sc_met : FnScope ["lines", "i", "j", "other", "ahead"] ["lines", "i"] (defScope sMet) := ⟨rfl, rfl, rfl, by decide +kernel, rfl, by decide +kernel, by decide +kernel⟩
theorem ok_met (T : Tx mg) (B : Fb K mg "is_met" sMet ["lines", "i"]) (cm : Df P w K mg base 4 "have_common_point" ["one", "other"] (spLn2 K fun l l' => .bl (common l l'))) :
    Df P w K mg base 5 "is_met" ["lines", "i"] (spMet K) := by
  refine B.df sc_met (fun vs H Q E h => ?_) (fun f cdv A outer s H vs Q E hr h => ?_)
  · obtain ⟨a, ls, i, rfl, _⟩ := h
    rfl
  · obtain ⟨a, ls, i0, rfl, ⟨ps, hS, hl, hat⟩, sm, hi0, h64, k⟩ := h
    refine ⟨_, pss_cons (ps_for PassesOwn.never rfl (pi_enum rfl T.enum (pa_cons (pv 0) pa_nil)) (pg_tup rfl (pgs_cons (pg_name (i := 2) sc_met.nd rfl (Or.inl rfl)) (pgs_cons (pg_name (i := 3) sc_met.nd rfl (Or.inl rfl)) pgs_nil)))
        (pss_cons (ps_set (i := 4) sc_met.nd rfl (Or.inl rfl) (pe_op op_mod (pe_op op_sub (pv 2) (pv 1)) (pe_callB call_lenN rfl T.len PySem.boot_len (pa_cons (pv 0) pa_nil))))
        (pss_one (ps_if (PW.pt (pw_and (pt_chain op_lt op_lt pe_int (pv 4) (pe_op op_sub (pe_callB call_lenN rfl T.len PySem.boot_len (pa_cons (pv 0) pa_nil)) pe_int))
          (pw_and1 (pt_val (pe_df cm hr rfl (pa_cons (pe_ix ix_list (pv 0) (pv 1) (fun _ _ => rfl)) (pa_cons (pv 3) pa_nil))))))) (pss_one (ps_ret pe_bl)) pss_nil))))
      (pss_one (ps_ret pe_bl)), ?_⟩
    refine ⟨_, rfl, a, _, rfl, hS, for_enum (K := K) (a := a) (xs := ps.map V.ref) (fun j σ H' => ∃ v2 v3 v4 : Option V, σ = [some (.ref a), some (.int (i0 : Int)), v2, v3, v4] ∧ Same H H' ∧ ∀ j', j' < j → (apart ls.length i0 j' && common (lnAt ls i0) (lnAt ls j')) = false)
      ⟨none, none, none, rfl, Same.refl H, fun j q => absurd q (Nat.not_lt_zero _)⟩ (fun i σ H' _ ⟨_, _, _, _, sH, _⟩ => sH.seq hS) ?_ ?_⟩
    · rintro j x σ H' t hx ht ⟨v2, v3, v4, rfl, sH, hj⟩
      obtain ⟨p, hp, rfl⟩ := ref_at hx
      have hjl : j < ls.length := by
        have := (List.getElem?_eq_some_iff.mp hp).1
        omega
      have s1 : Same H (upd H' t (.tup [.int (j : Nat), V.ref p])) := sH.trans (Same.new ht)
      obtain ⟨p', hp', hat'⟩ := at_ps (ps := ps) (z := (i0 : Int)) (j := i0) rfl (by omega)
      have nx : (apart ls.length i0 j && common (lnAt ls i0) (lnAt ls j)) = false → ∀ j', j' < j + 1 → (apart ls.length i0 j' && common (lnAt ls i0) (lnAt ls j')) = false := fun e j' hjj => by
        by_cases q : j' = j
        · rw [q]; exact e
        · exact hj j' (by omega)
      refine ⟨t, _, rfl, SqT.of upd_same, rfl, _, _, rfl, _, _, rfl, rfl, ?_⟩
      refine ⟨_, rfl, _, rfl, _, _, rfl, rfl, _, rfl, a, _, ls.length, rfl, s1.seq hS, by rw [List.length_map]; exact hl, _, _, rfl, rfl, (by show (0 : Int) < (ls.length : Int); omega), ?_⟩
      refine ⟨_, rfl, _, _, rfl, rfl, _, rfl, ite2 (fun c => ?_) (fun c => ?_)⟩
      · refine ⟨_, rfl, a, _, ls.length, rfl, s1.seq hS, by rw [List.length_map]; exact hl, _, _, rfl, rfl, _, _, rfl, rfl, _, rfl, ite2 (fun c2 => ?_) (fun c2 => ?_)⟩
        · refine ⟨_, rfl, _, rfl, a, _, _, _, rfl, rfl, s1.seq hS, hat', _, rfl, p', lnAt ls i0, p, lnAt ls j, rfl, Same.tup s1 (hat i0 p' hp'), Same.tup s1 (hat j p hp), sm _, sm _, _, rfl, ite2 (fun c3 => ?_) (fun c3 => ?_)⟩
          · have q : isMet ls i0 = true := by
              unfold isMet
              rw [List.any_eq_true]
              refine ⟨j, List.mem_range.mpr hjl, ?_⟩
              unfold apart
              rw [c, c2, c3]
              rfl
            have k' := k _ s1
            rw [q] at k'
            exact k'
          · refine ⟨_, _, _, rfl, s1, nx ?_⟩
            rw [Bool.eq_false_iff.mpr c3, Bool.and_false]
        · refine ⟨_, _, _, rfl, s1, nx ?_⟩
          unfold apart
          rw [Bool.eq_false_iff.mpr c2, Bool.and_false, Bool.false_and]
      · refine ⟨_, rfl, iteF (iteF ?_)⟩
        refine ⟨_, _, _, rfl, s1, nx ?_⟩
        unfold apart
        rw [Bool.eq_false_iff.mpr c, Bool.false_and, Bool.false_and]
    · rintro σ H' ⟨v2, v3, v4, rfl, sH, hj⟩
      rw [List.length_map] at hj
      have q : isMet ls i0 = false := by
        unfold isMet
        rw [List.any_eq_false]
        intro j hjm
        rw [List.mem_range] at hjm
        rw [hj j (by omega)]
        decide
      have k' := k _ sH
      rw [q] at k'
      exact k'
theorem sc_lmet : FnScope ["lines", "i"] ["lines"] (defScope sLmet) := ⟨rfl, rfl, rfl, by decide +kernel, rfl, by decide +kernel, by decide +kernel⟩
theorem ok_lmet (T : Tx mg) (B : Fb K mg "first_line_met" sLmet ["lines"]) (im : Df P w K mg base 5 "is_met" ["lines", "i"] (spMet K)) :
    Df P w K mg base 6 "first_line_met" ["lines"] (spLns K fun ls => optV (lineMet ls)) := by
  refine B.df sc_lmet (fun vs H Q E h => ?_) (fun f cdv A outer s H vs Q E hr h => ?_)
  · obtain ⟨a, ls, rfl, _⟩ := h
    rfl
  · obtain ⟨a, ls, rfl, hL, sm, h64, k⟩ := h
    obtain ⟨ps, hS, hl, hat⟩ := hL.ex
    have k : ∀ H', Same H H' → Q (optV (lineMet ls)) H' := k
    refine ⟨_, pss_cons (ps_for PassesOwn.never rfl (pi_range1 rfl T.range (pa_cons (pe_callB call_lenN rfl T.len PySem.boot_len (pa_cons (pv 0) pa_nil)) pa_nil)) (pg_name (i := 1) sc_lmet.nd rfl (Or.inl rfl))
        (pss_one (ps_if (pt_val (pe_df im hr rfl (pa_cons (pv 0) (pa_cons (pv 1) pa_nil)))) (pss_one (ps_ret (pv 1))) pss_nil)))
      (pss_one (ps_ret pe_non)), ?_⟩
    refine ⟨_, rfl, a, _, ls.length, rfl, hS, by rw [List.length_map]; exact hl, _, rfl, by omega, by omega, for_range (lo := 0) (n := ls.length) (fun i σ H' => ∃ v1 : Option V, σ = [some (.ref a), v1] ∧ Same H H' ∧ ∀ j, j < i → isMet ls j = false)
      ⟨none, rfl, Same.refl H, fun j q => absurd q (Nat.not_lt_zero _)⟩ ?_ ?_⟩
    · rintro i σ H' hi ⟨v1, rfl, sH, hj⟩
      refine ⟨_, rfl, _, rfl, a, ls, i, (by rw [Int.zero_add]; rfl), hL.same sH, sm, hi, h64, fun H2 s2 => ?_⟩
      have s1 := sH.trans s2
      refine ⟨_, rfl, ite2 (fun c => ?_) (fun c => ?_)⟩
      · refine ⟨_, rfl, ?_⟩
        have q : lineMet ls = some i := find_some hi c hj
        have k' := k _ s1
        rw [q] at k'
        rw [Int.zero_add]
        exact k'
      · refine ⟨_, rfl, s1, fun j hjj => ?_⟩
        by_cases q : j = i
        · rw [q]
          exact Bool.eq_false_iff.mpr c
        · exact hj j (by omega)
    · rintro σ H' ⟨v1, rfl, sH, hj⟩
      have q : lineMet ls = none := find_none hj
      have k' := k _ sH
      rw [q] at k'
      exact k'
def term (l : Ln) : Int := l.x0 * l.y1 - l.x1 * l.y0
theorem lnAt_get {ls : List Ln} {i : Nat} (h : i < ls.length) : ls[i]? = some (lnAt ls i) := by
  unfold lnAt
  rw [List.getD_eq_getElem?_getD, List.getElem?_eq_getElem h]
  rfl
theorem take_snoc {α : Type} : ∀ {l : List α} {i : Nat} {x : α}, l[i]? = some x → l.take (i + 1) = l.take i ++ [x]
  | [], i, x, h => by simp at h
  | a :: l, 0, x, h => by
    have e : a = x := Option.some.inj h
    subst e
    rfl
  | a :: l, i + 1, x, h => by
    have ih := take_snoc (l := l) (i := i) (x := x) h
    show a :: l.take (i + 1) = a :: l.take i ++ [x]
    rw [ih]
    rfl
theorem sc_area : FnScope ["lines", "line"] ["lines"] (defScope sArea) := ⟨rfl, rfl, rfl, by decide +kernel, rfl, by decide +kernel, by decide +kernel⟩
theorem ok_area (T : Tx mg) (B : Fb K mg "twice_area" sArea ["lines"]) : Df P w K mg base 1 "twice_area" ["lines"] (spLns K fun ls => .int (area ls)) := by
  refine B.df sc_area (fun vs H Q E h => ?_) (fun f cdv A outer s H vs Q E hr h => ?_)
  · obtain ⟨a, ls, rfl, _⟩ := h
    rfl
  · obtain ⟨a, ls, rfl, ⟨ps, hS, hl, hat⟩, sm, h64, k⟩ := h
    have k : ∀ H', Same H H' → Q (V.int (area ls)) H' := k
    refine ⟨_, pss_one (ps_ret (pe_callB (cr_sum rfl) rfl T.sum boot_sum (pa_cons (pe_lc (own := [("line", 1)]) rfl sc_area.nd (pi_list (pv 0)) (by change BlkOk ["lines", "line"] (defScope sArea) _ [("line", 1)]; exact ⟨rfl, by decide +kernel, by decide +kernel, by decide +kernel, by decide +kernel⟩)
      (fun s H C cl fp => pg_name (i := 1) sc_area.nd rfl (Or.inl rfl)) (fun s H C cl fp => pts_nil)
      (fun s H C cl fp => pe_op op_sub (pe_op op_mulB (pe_ix (r := rIxX K) ix_any (pv 1) pe_int (fun _ _ => rfl)) (pe_ix (r := rIxX K) ix_any (pv 1) pe_int (fun _ _ => rfl))) (pe_op op_mulB (pe_ix (r := rIxX K) ix_any (pv 1) pe_int (fun _ _ => rfl)) (pe_ix (r := rIxX K) ix_any (pv 1) pe_int (fun _ _ => rfl))))) pa_nil))), ?_⟩
    refine ⟨_, rfl, a, rfl, ⟨_, hS⟩, fun D hD => lc_list (K := K) (a := a) (xs := ps.map V.ref) (fun i H' => Same H H' ∧ H' D = some (.lst (((ls.take i).map term).map V.int))) ⟨Same.new hD, upd_same⟩ (fun i H' _ ⟨sH, _⟩ => sH.seq hS) ?_ ?_⟩
    · rintro i x H' hx ⟨sH, hD'⟩
      obtain ⟨p, hp, rfl⟩ := ref_at hx
      have hi : i < ls.length := by
        have := (List.getElem?_eq_some_iff.mp hp).1
        omega
      have hp' := Same.tup sH (hat i p hp)
      refine ⟨rfl, ?_⟩
      refine ⟨_, rfl, p, _, _, _, rfl, rfl, hp', rfl, _, rfl, p, _, _, _, rfl, rfl, hp', rfl, _, _, rfl, rfl, (sm i).1.ok (sm i).2.2.2 (by decide), _, rfl, p, _, _, _, rfl, rfl, hp', rfl, _, rfl, p, _, _, _, rfl, rfl, hp', rfl, _, _, rfl, rfl, (sm i).2.2.1.ok (sm i).2.1 (by decide), _, _, rfl, rfl, ?_⟩
      refine ⟨_, hD', (by rw [List.length_map, List.length_map, List.length_take]; exact small1000 (by omega)), fun b o e => ?_, ?_⟩
      · rw [upd_ne (fun z => (by rw [z, hD] at e; cases e))]
        exact sH b o e
      · rw [upd_same, take_snoc (lnAt_get hi), List.map_append, List.map_append]
        rfl
    · rintro H' ⟨sH, hD'⟩
      rw [List.length_map, hl, List.take_length] at hD'
      exact ⟨D, _, rfl, SqL.of hD', k H' sH⟩
theorem sc_fl : FnScope ["lines", "wall"] ["lines"] (defScope sFl) := ⟨rfl, rfl, rfl, by decide +kernel, rfl, by decide +kernel, by decide +kernel⟩
theorem notN {A B : Prop} {o : Option Nat} (h1 : ∀ i, o = some i → A) (h2 : o = none → B) : if (!decide (optV o = V.non)) = true then A else B := by
  cases o with
  | none => exact iteNS rfl (h2 rfl)
  | some i =>
    rw [if_pos (by rw [Bool.not_eq_true', decide_eq_false_iff_not]; intro z; cases z)]
    exact h1 i rfl
theorem ok_fl (T : Tx mg) (B : Fb K mg "find_fault_of_lines" sFl ["lines"]) (wr : Df P w K mg base 4 "first_wrong_line" ["lines"] (spLns K fun ls => optV (wrongLine ls))) (go : Df P w K mg base 3 "first_line_going_on" ["lines"] (spLns K fun ls => optV (goingOn ls)))
    (lm : Df P w K mg base 6 "first_line_met" ["lines"] (spLns K fun ls => optV (lineMet ls))) (ar : Df P w K mg base 1 "twice_area" ["lines"] (spLns K fun ls => .int (area ls))) :
    Df P w K mg base 7 "find_fault_of_lines" ["lines"] (spFaultL K) := by
  refine B.df sc_fl (fun vs H Q E h => ?_) (fun f cdv A outer s H vs Q E hr h => ?_)
  · obtain ⟨a, ls, rfl, _⟩ := h
    rfl
  · obtain ⟨a, ls, rfl, hL, sm, h64, k⟩ := h
    refine ⟨_, pss_cons (ps_set (i := 1) sc_fl.nd rfl (Or.inl rfl) (pe_df wr (hr.mono (by decide)) rfl (pa_cons (pv 0) pa_nil)))
      (pss_cons (ps_if (pt_cmpR op_notN (pv 1) pe_non (nomark _)) (pss_one (ps_ret (pe_lst (pa_cons pe_int (pa_cons (pv 1) pa_nil))))) pss_nil)
      (pss_cons (ps_set (i := 1) sc_fl.nd rfl (Or.inl rfl) (pe_df go (hr.mono (by decide)) rfl (pa_cons (pv 0) pa_nil)))
      (pss_cons (ps_if (pt_cmpR op_notN (pv 1) pe_non (nomark _)) (pss_one (ps_ret (pe_lst (pa_cons pe_int (pa_cons (pv 1) pa_nil))))) pss_nil)
      (pss_cons (ps_set (i := 1) sc_fl.nd rfl (Or.inl rfl) (pe_df lm hr rfl (pa_cons (pv 0) pa_nil)))
      (pss_cons (ps_if (pt_cmpR op_notN (pv 1) pe_non (nomark _)) (pss_one (ps_ret (pe_lst (pa_cons pe_int (pa_cons (pv 1) pa_nil))))) pss_nil)
      (pss_cons (ps_if (pt_cmpR op_le (pe_df ar (hr.mono (by decide)) rfl (pa_cons (pv 0) pa_nil)) pe_int (nomark _)) (pss_one (ps_ret (pe_lst (pa_cons pe_int (pa_cons pe_int pa_nil))))) pss_nil)
      (pss_one (ps_ret pe_non)))))))), ?_⟩
    have fin : ∀ (H1 : Hp) (r i : Nat) (l : Addr), Same H H1 → faultL ls = some (r, i) → H1 l = none → Q (.ref l) (upd H1 l (.lst [.int (r : Int), .int (i : Int)])) := fun H1 r i l s1 e hl => by
      refine k _ _ (s1.trans (Same.new hl)) ?_
      rw [e]
      exact ⟨l, rfl, upd_same⟩
    refine ⟨_, rfl, a, ls, rfl, hL, sm, h64, fun H1 s1 => ?_⟩
    refine ⟨_, rfl, rfl, _, rfl, notN (fun i e1 => ?_) (fun e1 => ?_)⟩
    · refine ⟨_, rfl, (by show 2 ≤ sizeLine; decide), fun l hl => ?_⟩
      have e2 : faultL ls = some (4, i) := by unfold faultL; rw [e1]
      show Q (.ref l) (upd H1 l (.lst [.int 4, optV (wrongLine ls)]))
      rw [e1]
      exact fin H1 4 i l s1 e2 hl
    · refine ⟨_, rfl, a, ls, rfl, hL.same s1, sm, h64, fun H2 s2 => ?_⟩
      have s12 := s1.trans s2
      refine ⟨_, rfl, rfl, _, rfl, notN (fun i e2 => ?_) (fun e2 => ?_)⟩
      · refine ⟨_, rfl, (by show 2 ≤ sizeLine; decide), fun l hl => ?_⟩
        have e3 : faultL ls = some (5, i) := by unfold faultL; rw [e1, e2]
        show Q (.ref l) (upd H2 l (.lst [.int 5, optV (goingOn ls)]))
        rw [e2]
        exact fin H2 5 i l s12 e3 hl
      · refine ⟨_, rfl, a, ls, rfl, hL.same s12, sm, h64, fun H3 s3 => ?_⟩
        have s13 := s12.trans s3
        refine ⟨_, rfl, rfl, _, rfl, notN (fun i e3 => ?_) (fun e3 => ?_)⟩
        · refine ⟨_, rfl, (by show 2 ≤ sizeLine; decide), fun l hl => ?_⟩
          have e4 : faultL ls = some (6, i) := by unfold faultL; rw [e1, e2, e3]
          show Q (.ref l) (upd H3 l (.lst [.int 6, optV (lineMet ls)]))
          rw [e3]
          exact fin H3 6 i l s13 e4 hl
        · refine ⟨_, rfl, a, ls, rfl, hL.same s13, sm, h64, fun H4 s4 => ?_⟩
          have s14 := s13.trans s4
          have e4 : faultL ls = if area ls ≤ 0 then some (7, 0) else none := by unfold faultL; rw [e1, e2, e3]
          refine ⟨_, _, rfl, rfl, _, rfl, ite2 (fun c => ?_) (fun c => ?_)⟩
          · refine ⟨(by show 2 ≤ sizeLine; decide), fun l hl => ?_⟩
            rw [decide_eq_true_eq] at c
            rw [if_pos c] at e4
            exact fin H4 7 0 l s14 e4 hl
          · rw [decide_eq_true_eq] at c
            rw [if_neg c] at e4
            refine k _ _ s14 ?_
            rw [e4]
            rfl
theorem sms_of {ns : List Int} (hw : whole ns = true) (h : badCorner ns = none) : Sms (linesM ns) := by
  obtain ⟨hl, h3, h64⟩ := whole_len hw
  have ok : ∀ i, i < cnt ns → (0 ≤ at_ ns (3 + 3 * i) ∧ at_ ns (3 + 3 * i) ≤ 4095) ∧ (0 ≤ at_ ns (3 + 3 * i + 1) ∧ at_ ns (3 + 3 * i + 1) ≤ 4095) := fun i hi => by
    have q := find_none_all h hi
    rw [Bool.not_eq_false'] at q
    unfold okCorner okCoord at q
    simp only [Bool.and_eq_true, decide_eq_true_eq] at q
    exact ⟨q.1, q.2.1⟩
  intro i
  by_cases hi : i < cnt ns
  · unfold linesM
    rw [lnAt_map _ _ _ hi]
    have hm : (i + 1) % cnt ns < cnt ns := Nat.mod_lt _ (by omega)
    exact ⟨.small (ok i hi).1, .small (ok i hi).2, .small (ok _ hm).1, .small (ok _ hm).2⟩
  · have e : lnAt (linesM ns) i = ⟨0, 0, 0, 0⟩ := by
      unfold lnAt linesM
      rw [List.getD_eq_getElem?_getD, List.getElem?_eq_none (by rw [List.length_map, List.length_range]; omega)]
      rfl
    rw [e]
    exact ⟨.small (by decide), .small (by decide), .small (by decide), .small (by decide)⟩
theorem sc_ff : FnScope ["room", "wall"] ["room"] (defScope sFf) := ⟨rfl, rfl, rfl, by decide +kernel, rfl, by decide +kernel, by decide +kernel⟩
theorem ok_ff (B : Fb K mg "find_fault" sFf ["room"]) (wh : Df P w K mg base 2 "has_whole_corners" ["room"] (spList K (fun _ => True) fun ns => .bl (whole ns)))
    (hd : Df P w K mg base 2 "has_sound_head" ["room"] (spList K (fun ns => 3 ≤ ns.length) fun ns => .bl (head ns))) (bc : Df P w K mg base 2 "first_wrong_corner" ["room"] (spList K (fun ns => whole ns = true) fun ns => optV (badCorner ns)))
    (li : Df P w K mg base 2 "lines_of" ["room"] (spLines K)) (fl : Df P w K mg base 7 "find_fault_of_lines" ["lines"] (spFaultL K)) :
    Df P w K mg base 8 "find_fault" ["room"] (spFault K) := by
  refine B.df sc_ff (fun vs H Q E h => ?_) (fun f cdv A outer s H vs Q E hr h => ?_)
  · obtain ⟨a, ns, rfl, _⟩ := h
    rfl
  · obtain ⟨a, ns, rfl, hS, h1000, k⟩ := h
    refine ⟨_, pss_cons (ps_if (pt_not (pt_val (pe_df wh (hr.mono (by decide)) rfl (pa_cons (pv 0) pa_nil)))) (pss_one (ps_ret (pe_lst (pa_cons pe_int (pa_cons pe_int pa_nil))))) pss_nil)
      (pss_cons (ps_if (pt_not (pt_val (pe_df hd (hr.mono (by decide)) rfl (pa_cons (pv 0) pa_nil)))) (pss_one (ps_ret (pe_lst (pa_cons pe_int (pa_cons pe_int pa_nil))))) pss_nil)
      (pss_cons (ps_set (i := 1) sc_ff.nd rfl (Or.inl rfl) (pe_df bc (hr.mono (by decide)) rfl (pa_cons (pv 0) pa_nil)))
      (pss_cons (ps_if (pt_cmpR op_notN (pv 1) pe_non (nomark _)) (pss_one (ps_ret (pe_lst (pa_cons pe_int (pa_cons (pv 1) pa_nil))))) pss_nil)
      (pss_one (ps_ret (pe_df fl hr rfl (pa_cons (pe_df li (hr.mono (by decide)) rfl (pa_cons (pv 0) pa_nil)) pa_nil))))))), ?_⟩
    have fin : ∀ (r i : Nat) (l : Addr), faultM ns = some (r, i) → H l = none → Q (.ref l) (upd H l (.lst [.int (r : Int), .int (i : Int)])) := fun r i l e hl => by
      refine k _ _ (Same.new hl) ?_
      rw [e]
      exact ⟨l, rfl, upd_same⟩
    refine ⟨_, rfl, a, ns, rfl, hS, trivial, _, rfl, ite2 (fun c1 => ?_) (fun c1 => ?_)⟩
    · rw [Bool.not_eq_true'] at c1
      refine ⟨(by show 2 ≤ sizeLine; decide), fun l hl => ?_⟩
      exact fin 1 0 l (by unfold faultM; rw [if_pos c1]) hl
    · have w1 : whole ns = true := by
        cases e : whole ns with
        | true => rfl
        | false => exact absurd (by rw [e]; rfl) c1
      have w0 : ¬ whole ns = false := by rw [w1]; decide
      obtain ⟨hl, h3, h64⟩ := whole_len w1
      refine ⟨_, rfl, a, ns, rfl, hS, by omega, _, rfl, ite2 (fun c2 => ?_) (fun c2 => ?_)⟩
      · rw [Bool.not_eq_true'] at c2
        refine ⟨(by show 2 ≤ sizeLine; decide), fun l hl => ?_⟩
        exact fin 2 0 l (by unfold faultM; rw [if_neg w0, if_pos c2]) hl
      · have d0 : ¬ head ns = false := fun e => c2 (by rw [e]; rfl)
        refine ⟨_, rfl, a, ns, rfl, hS, w1, ?_⟩
        refine ⟨_, rfl, rfl, _, rfl, notN (fun i e1 => ?_) (fun e1 => ?_)⟩
        · refine ⟨_, rfl, (by show 2 ≤ sizeLine; decide), fun l hl => ?_⟩
          show Q (.ref l) (upd H l (.lst [.int 3, optV (badCorner ns)]))
          rw [e1]
          exact fin 3 i l (by unfold faultM; rw [if_neg w0, if_neg d0, e1]) hl
        · refine ⟨_, rfl, a, ns, rfl, hS, w1, fun H1 b s1 hL => ?_⟩
          refine ⟨b, linesM ns, rfl, hL, sms_of w1 e1, (by unfold linesM; rw [List.length_map, List.length_range]; exact h64), fun H2 v s2 hv => ?_⟩
          refine k H2 v (s1.trans s2) ?_
          have e2 : faultM ns = faultL (linesM ns) := by unfold faultM; rw [if_neg w0, if_neg d0, e1]
          rw [e2]
          exact hv
theorem sc_jd : FnScope ["room", "fault"] ["room"] (defScope sJudge) := ⟨rfl, rfl, rfl, by decide +kernel, rfl, by decide +kernel, by decide +kernel⟩
theorem fn_jd {f : Addr} {fd : FuncData} (F : Fun K "judge" "judge" sJudge f fd) (ff : Df P w K mg base 8 "find_fault" ["room"] (spFault K)) : FnOk P w K mg base CX0 9 f fd ["room"] (spJudge K) := by
  refine F.ok sc_jd (fun vs H Q E h => ?_) (fun cdv A outer s H vs Q E hr h => ?_)
  · obtain ⟨a, ns, rfl, _⟩ := h
    rfl
  · obtain ⟨a, ns, rfl, hS, h1000, k⟩ := h
    refine ⟨_, pss_cons (ps_set (i := 1) sc_jd.nd rfl (Or.inl rfl) (pe_df ff hr rfl (pa_cons (pv 0) pa_nil)))
      (pss_cons (ps_if (pt_cmpR op_notN (pv 1) pe_non (nomark _)) (pss_one (ps_ret (pe_op op_cat (pe_lst (pa_cons (pe_un un_neg pe_int) pa_nil)) (pv 1)))) pss_nil)
      (pss_one (ps_ret (pe_lst (pa_cons pe_int pa_nil))))), ?_⟩
    refine ⟨_, rfl, a, ns, rfl, hS, h1000, fun H1 v s1 hv => ?_⟩
    cases e : faultM ns with
    | none =>
      rw [e] at hv
      have hv : v = .non := hv
      subst hv
      refine ⟨_, rfl, rfl, _, rfl, iteNS rfl ?_⟩
      refine ⟨(by show 1 ≤ sizeLine; decide), fun l hl => ?_⟩
      refine k _ _ (s1.trans (Same.new hl)) ?_
      rw [upd_same]
      unfold judgeM
      rw [e]
      rfl
    | some q =>
      rw [e] at hv
      obtain ⟨p, rfl, hp⟩ := hv
      refine ⟨_, rfl, rfl, _, rfl, ite2 (fun _ => ?_) (fun z => absurd (show (!decide (V.ref p = V.non)) = true by rw [Bool.not_eq_true', decide_eq_false_iff_not]; intro y; cases y) z)⟩
      refine ⟨_, rfl, (by show 1 ≤ sizeLine; decide), fun l hl => ?_⟩
      refine ⟨_, rfl, l, p, _, _, rfl, rfl, upd_same, (by rw [upd_ne (ne_of_none hp hl)]; exact hp), (by show 1 + 2 ≤ sizeLine; decide), fun m hm => ?_⟩
      refine k _ _ ((s1.trans (Same.new hl)).trans (Same.new hm)) ?_
      rw [upd_same]
      unfold judgeM
      rw [e]
      rfl
theorem filter_snoc {α : Type} {p : α → Bool} {l : List α} {x : α} : (l ++ [x]).filter p = l.filter p ++ (if p x = true then [x] else []) := by
  rw [List.filter_append, List.filter_cons, List.filter_nil]
theorem filt_len {α : Type} {p : α → Bool} {l : List α} (h : l.length ≤ 64) (i : Nat) : ((l.take i).filter p).length ≤ 64 :=
  Nat.le_trans (List.length_filter_le _ _) (by rw [List.length_take]; omega)
theorem dp_ints {K : PySem.W.Frag} {H : Hp} : ∀ ns : List Int, DpAll K H (ns.map V.int) (ns.map PyData.int)
  | [] => .nil
  | n :: r => .cons (.int n) (dp_ints r)
theorem faultM_parts {ns : List Int} (h : faultM ns = none) : whole ns = true ∧ head ns = true ∧ badCorner ns = none := by
  unfold faultM at h
  by_cases w1 : whole ns = false
  · rw [if_pos w1] at h
    cases h
  · rw [if_neg w1] at h
    by_cases d1 : head ns = false
    · rw [if_pos d1] at h
      cases h
    · rw [if_neg d1] at h
      refine ⟨by simpa using w1, by simpa using d1, ?_⟩
      cases e : badCorner ns with
      | none => rfl
      | some i =>
        rw [e] at h
        cases h
end
end Rm

namespace Rm
open PySem PySem.Spec PyProof.Rows L2
open PySem.W (Codec)
/-- the places' numbers, as the top has written them -/
structure Ty (mg : Str → Option Value) : Prop where
  out : ∃ t, mg "OUTSIDE" = some (.int 0 t)
  surf : ∃ t, mg "ON_SURFACE" = some (.int 1 t)
  ins : ∃ t, mg "INSIDE" = some (.int 2 t)
def spTouch (K : PySem.W.Frag) : Sp := fun vs H Q _ => ∃ (a : Addr) (ls : List Ln) (p : Addr) (way : Ln), vs = [.ref a, .ref p] ∧ LnsAt K H a ls ∧ Sms ls ∧ LnAt K H p way ∧ Sm way ∧ Q (.bl (touchedI ls way)) H
def spPass (K : PySem.W.Frag) : Sp := fun vs H Q _ => ∃ (p : Addr) (l : Ln) (x y : Int), vs = [.ref p, .int x, .int y] ∧ LnAt K H p l ∧ Sm l ∧ Bt 300 x ∧ Bt 300 y ∧ Q (.bl (passedI x y l)) H
def spPlan (K : PySem.W.Frag) : Sp := fun vs H Q _ => ∃ (a : Addr) (ls : List Ln) (x y : Int), vs = [.ref a, .int x, .int y] ∧ LnsAt K H a ls ∧ Sms ls ∧ ls.length ≤ 64 ∧ Bt 300 x ∧ Bt 300 y ∧ ∀ H', Same H H' → Q (.int (planI ls x y)) H'
def spHeight : Sp := fun vs H Q _ => ∃ h z : Int, vs = [.int h, .int z] ∧ Q (.int (heightI h z)) H
def spPlace (K : PySem.W.Frag) : Sp := fun vs H Q _ => ∃ (a : Addr) (ns : List Int) (x y z : Int), vs = [.ref a, .int x, .int y, .int z] ∧ SqL K H a (ns.map V.int) ∧ faultM ns = none ∧ Bt 300 x ∧ Bt 300 y ∧ ∀ H', Same H H' → Q (.int (placeI (linesM ns) (at_ ns 0) x y z)) H'
section
variable {P : Program} {w : World} {K : PySem.W.Frag} {mg : Str → Option Value} {base : Heap}
theorem any_at {f : Ln → Bool} {ls : List Ln} {i : Nat} (hi : i < ls.length) (h : f (lnAt ls i) = true) : ls.any f = true :=
  List.any_eq_true.mpr ⟨lnAt ls i, List.mem_of_getElem? (lnAt_get hi), h⟩
theorem any_no {f : Ln → Bool} {ls : List Ln} (h : ∀ j, j < ls.length → f (lnAt ls j) = false) : ls.any f = false := by
  rw [List.any_eq_false]
  intro l hl
  obtain ⟨j, e⟩ := List.getElem?_of_mem hl
  have hj : j < ls.length := (List.getElem?_eq_some_iff.mp e).1
  have := h j hj
  rw [Option.some.inj ((lnAt_get hj).symm.trans e)] at this
  rw [this]
  decide
theorem sc_touch : FnScope ["lines", "way", "line"] ["lines", "way"] (defScope sTouch) := ⟨rfl, rfl, rfl, by decide +kernel, rfl, by decide +kernel, by decide +kernel⟩
theorem ok_touch (B : Fb K mg "is_touched" sTouch ["lines", "way"]) (cm : Df P w K mg base 4 "have_common_point" ["one", "other"] (spLn2 K fun l l' => .bl (common l l'))) :
    Df P w K mg base 5 "is_touched" ["lines", "way"] (spTouch K) := by
  refine B.df sc_touch (fun vs H Q E h => ?_) (fun f cdv A outer s H vs Q E hr h => ?_)
  · obtain ⟨a, ls, p, way, rfl, _⟩ := h
    rfl
  · obtain ⟨a, ls, p, way, rfl, ⟨ps, hS, hl, hat⟩, sm, hw, smw, k⟩ := h
    have k : Q (.bl (touchedI ls way)) H := k
    refine ⟨_, pss_cons (ps_for PassesOwn.never rfl (pi_list (pv 0)) (pg_name (i := 2) sc_touch.nd rfl (Or.inl rfl))
        (pss_one (ps_if (pt_val (pe_df cm hr rfl (pa_cons (pv 2) (pa_cons (pv 1) pa_nil)))) (pss_one (ps_ret pe_bl)) pss_nil)))
      (pss_one (ps_ret pe_bl)), ?_⟩
    refine ⟨_, rfl, a, rfl, ⟨_, hS⟩, for_list (K := K) (a := a) (xs := ps.map V.ref) (fun i σ H' => ∃ v2 : Option V, σ = [some (.ref a), some (.ref p), v2] ∧ H' = H ∧ ∀ j, j < i → common (lnAt ls j) way = false)
      ⟨none, rfl, rfl, fun j q => absurd q (Nat.not_lt_zero _)⟩ (fun i σ H' _ ⟨_, _, e, _⟩ => by rw [e]; exact hS) ?_ ?_⟩
    · rintro i x σ H' hx ⟨v2, rfl, rfl, hj⟩
      obtain ⟨p', hp', rfl⟩ := ref_at hx
      have hi : i < ls.length := by
        have := (List.getElem?_eq_some_iff.mp hp').1
        omega
      refine ⟨_, rfl, _, rfl, p', lnAt ls i, p, way, rfl, .inl (hat i p' hp'), hw, sm i, smw, _, rfl, ite2 (fun c => ?_) (fun c => ?_)⟩
      · refine toB k ?_
        exact (any_at (f := fun l => common l way) hi c).symm
      · refine ⟨_, rfl, rfl, fun j hjj => ?_⟩
        by_cases q : j = i
        · rw [q]
          exact Bool.eq_false_iff.mpr c
        · exact hj j (by omega)
    · rintro σ H' ⟨v2, rfl, rfl, hj⟩
      rw [List.length_map] at hj
      refine toB k ?_
      exact (any_no (f := fun l => common l way) fun j hjj => hj j (by omega)).symm
theorem sc_pass : FnScope ["line", "x", "y"] ["line", "x", "y"] (defScope sPass) := ⟨rfl, rfl, rfl, by decide +kernel, rfl, by decide +kernel, by decide +kernel⟩
theorem ok_pass (B : Fb K mg "is_passed" sPass ["line", "x", "y"]) (sd : Df P w K mg base 2 "side_of" ["line", "x", "y"] (spSide K)) (dy : Df P w K mg base 1 "run_along_y" ["line"] (spLn K fun l => .int l.dy)) :
    Df P w K mg base 3 "is_passed" ["line", "x", "y"] (spPass K) := by
  refine B.df sc_pass (fun vs H Q E h => ?_) (fun f cdv A outer s H vs Q E hr h => ?_)
  · obtain ⟨p, l, x, y, rfl, _⟩ := h
    rfl
  · obtain ⟨p, l, x, y, rfl, hp, sm, hx, hy, k⟩ := h
    have k : Q (.bl (passedI x y l)) H := k
    refine ⟨_, pss_cons (ps_if (pt_cmpR op_eq (pe_cmpR op_lt (pe_ix ix_any (pv 0) pe_int (fun _ _ => rfl)) (pv 2) (nomark _)) (pe_cmpR op_lt (pe_ix ix_any (pv 0) pe_int (fun _ _ => rfl)) (pv 2) (nomark _)) (nomark _)) (pss_one (ps_ret pe_bl)) pss_nil)
      (pss_one (ps_ret (pe_cmpR op_eq (pe_cmpR op_gt (pe_df sd hr rfl (pa_cons (pv 0) (pa_cons (pv 1) (pa_cons (pv 2) pa_nil)))) pe_int (nomark _)) (pe_cmpR op_gt (pe_df dy (hr.mono (by decide)) rfl (pa_cons (pv 0) pa_nil)) pe_int (nomark _)) (nomark _)))), ?_⟩
    refine ⟨_, rfl, p, _, _, _, rfl, rfl, hp, rfl, _, rfl, _, _, rfl, rfl, _, rfl, p, _, _, _, rfl, rfl, hp, rfl, _, rfl, _, _, rfl, rfl, rfl, _, rfl, ite2 (fun c => ?_) (fun c => ?_)⟩
    · rw [dB, decide_eq_true_eq] at c
      refine toB k ?_
      unfold passedI
      rw [if_pos c]
    · rw [dB, decide_eq_true_eq] at c
      refine ⟨_, rfl, _, rfl, _, rfl, p, l, x, y, rfl, hp, sm, hx, hy, _, _, rfl, rfl, _, rfl, p, l, rfl, hp, _, _, rfl, rfl, rfl, ?_⟩
      refine toB k ?_
      unfold passedI
      rw [if_neg c]
      exact dB
theorem sc_height : FnScope ["h", "z"] ["h", "z"] (defScope sHeight) := ⟨rfl, rfl, rfl, by decide +kernel, rfl, by decide +kernel, by decide +kernel⟩
theorem ok_height (Y : Ty mg) (B : Fb K mg "place_in_height" sHeight ["h", "z"]) : Df P w K mg base 1 "place_in_height" ["h", "z"] spHeight := by
  obtain ⟨t0, g0⟩ := Y.out
  obtain ⟨t1, g1⟩ := Y.surf
  obtain ⟨t2, g2⟩ := Y.ins
  refine B.df sc_height (fun vs H Q E h => ?_) (fun f cdv A outer s H vs Q E hr h => ?_)
  · obtain ⟨h, z, rfl, _⟩ := h
    rfl
  · obtain ⟨h, z, rfl, k⟩ := h
    have k : Q (.int (heightI h z)) H := k
    refine ⟨_, pss_cons (ps_if (PW.pt (pw_or (pt_cmpR op_lt (pv 1) pe_int (nomark _)) (pw_or1 (pt_cmpR op_gt (pv 1) (pv 0) (nomark _))))) (pss_one (ps_ret (pe_glob (v := .int 0) rfl g0 ⟨_, rfl⟩))) pss_nil)
      (pss_cons (ps_if (PW.pt (pw_or (pt_cmpR op_eq (pv 1) pe_int (nomark _)) (pw_or1 (pt_cmpR op_eq (pv 1) (pv 0) (nomark _))))) (pss_one (ps_ret (pe_glob (v := .int 1) rfl g1 ⟨_, rfl⟩))) pss_nil)
      (pss_one (ps_ret (pe_glob (v := .int 2) rfl g2 ⟨_, rfl⟩)))), ?_⟩
    have out : (z < 0 ∨ h < z) → (0 : Int) = heightI h z := fun q => by unfold heightI; rw [if_pos q]
    refine ⟨_, rfl, _, _, rfl, rfl, _, rfl, ite2 (fun c1 => ?_) (fun c1 => ?_)⟩
    · rw [decide_eq_true_eq] at c1
      exact iteT (toI k (out (.inl c1)))
    · rw [decide_eq_true_eq] at c1
      refine ⟨_, rfl, _, rfl, _, _, rfl, rfl, _, rfl, ite2 (fun c2 => ?_) (fun c2 => ?_)⟩
      · rw [decide_eq_true_eq] at c2
        exact toI k (out (.inr c2))
      · rw [decide_eq_true_eq] at c2
        have nout : ¬ (z < 0 ∨ h < z) := fun q => q.elim c1 c2
        have surf : (z = 0 ∨ z = h) → (1 : Int) = heightI h z := fun q => by unfold heightI; rw [if_neg nout, if_pos q]
        refine ⟨_, rfl, rfl, _, rfl, ite2 (fun c3 => ?_) (fun c3 => ?_)⟩
        · rw [dV, decide_eq_true_eq] at c3
          exact iteT (toI k (surf (.inl c3)))
        · rw [dV, decide_eq_true_eq] at c3
          refine ⟨_, rfl, _, rfl, rfl, _, rfl, ite2 (fun c4 => ?_) (fun c4 => ?_)⟩
          · rw [dV, decide_eq_true_eq] at c4
            exact toI k (surf (.inr c4))
          · rw [dV, decide_eq_true_eq] at c4
            refine toI k ?_
            unfold heightI
            rw [if_neg nout, if_neg (fun q => q.elim c3 c4)]
theorem sc_plan : FnScope ["lines", "x", "y", "passed", "line"] ["lines", "x", "y"] (defScope sPlan) := ⟨rfl, rfl, rfl, by decide +kernel, rfl, by decide +kernel, by decide +kernel⟩
theorem ok_plan (T : Tx mg) (Y : Ty mg) (B : Fb K mg "place_in_plan" sPlan ["lines", "x", "y"]) (tc : Df P w K mg base 5 "is_touched" ["lines", "way"] (spTouch K)) (pa : Df P w K mg base 3 "is_passed" ["line", "x", "y"] (spPass K)) :
    Df P w K mg base 6 "place_in_plan" ["lines", "x", "y"] (spPlan K) := by
  obtain ⟨t0, g0⟩ := Y.out
  obtain ⟨t1, g1⟩ := Y.surf
  obtain ⟨t2, g2⟩ := Y.ins
  refine B.df sc_plan (fun vs H Q E h => ?_) (fun f cdv A outer s H vs Q E hr h => ?_)
  · obtain ⟨a, ls, x, y, rfl, _⟩ := h
    rfl
  · obtain ⟨a, ls, x, y, rfl, hL, sm, h64, hx, hy, k⟩ := h
    have k : ∀ H', Same H H' → Q (.int (planI ls x y)) H' := k
    have hr3 := hr.mono (show 3 ≤ 5 by decide)
    obtain ⟨ps, hS, hl, hat⟩ := hL.ex
    refine ⟨_, pss_cons (ps_if (pt_val (pe_df tc hr rfl (pa_cons (pv 0) (pa_cons (pe_tup (pa_cons (pv 1) (pa_cons (pv 2) (pa_cons (pv 1) (pa_cons (pv 2) pa_nil))))) pa_nil)))) (pss_one (ps_ret (pe_glob (v := .int 1) rfl g1 ⟨_, rfl⟩))) pss_nil)
      (pss_cons (ps_setLc (i := 3) (own := [("line", 4)]) rfl sc_plan.nd rfl rfl rfl (pi_list (pv 0)) (by change BlkOk ["lines", "x", "y", "passed", "line"] (defScope sPlan) _ [("line", 4)]; exact ⟨rfl, by decide +kernel, by decide +kernel, by decide +kernel, by decide +kernel⟩)
        (fun s H C cl fp => pg_name (i := 4) sc_plan.nd rfl (Or.inl rfl)) (fun s H C cl fp => pts_one (pt_val (pe_df pa hr3 rfl (pa_cons (pv 4) (pa_cons (pv 1) (pa_cons (pv 2) pa_nil)))))) (fun s H C cl fp => pv 4))
      (pss_one (ps_ret (pe_ifExp (pt_cmpR op_eq (pe_op op_mod (pe_callB call_lenN rfl T.len PySem.boot_len (pa_cons (pv 3) pa_nil)) pe_int) pe_int (nomark _)) (pe_glob (v := .int 2) rfl g2 ⟨_, rfl⟩) (pe_glob (v := .int 0) rfl g0 ⟨_, rfl⟩))))), ?_⟩
    refine ⟨_, rfl, _, rfl, _, rfl, _, rfl, _, rfl, (by show 4 ≤ sizeLine; decide), fun q hq => ?_⟩
    have s1 : Same H (upd H q (.tup [.int x, .int y, .int x, .int y])) := Same.new hq
    refine ⟨a, ls, q, ⟨x, y, x, y⟩, rfl, hL.same s1, sm, SqX.of upd_same, ⟨hx, hy, hx, hy⟩, _, rfl, ite2 (fun c => ?_) (fun c => ?_)⟩
    · refine toI (k _ s1) ?_
      unfold planI
      rw [if_pos c]
    · refine ⟨_, rfl, a, rfl, ⟨_, s1.seq hS⟩, fun D hD => lc_list (K := K) (a := a) (xs := ps.map V.ref) (fun i H' => Same H H' ∧ ∃ qs : List V, H' D = some (.lst qs) ∧ qs.length = ((ls.take i).filter (passedI x y)).length) ⟨s1.trans (Same.new hD), [], upd_same, rfl⟩ (fun i H' _ ⟨sH, _⟩ => sH.seq hS) ?_ ?_⟩
      · rintro i x' H' hx' ⟨sH, qs, hD', hqs⟩
        obtain ⟨p, hp, rfl⟩ := ref_at hx'
        have hi : i < ls.length := by
          have := (List.getElem?_eq_some_iff.mp hp).1
          omega
        have hp' := Same.tup sH (hat i p hp)
        refine ⟨rfl, _, rfl, _, rfl, _, rfl, p, lnAt ls i, x, y, rfl, hp', sm i, hx, hy, _, rfl, ite2 (fun c2 => ?_) (fun c2 => ?_)⟩
        · refine ⟨_, rfl, _, hD', (by rw [hqs]; exact small1000 (Nat.le_trans (filt_len h64 i) (by decide))), fun b o e => ?_, _, upd_same, ?_⟩
          · rw [upd_ne (fun z => (by rw [z] at e; rw [s1 _ _ e] at hD; cases hD))]
            exact sH b o e
          · rw [take_snoc (lnAt_get hi), filter_snoc, if_pos c2, List.length_append, List.length_append, hqs]
            rfl
        · refine ⟨sH, qs, hD', ?_⟩
          rw [take_snoc (lnAt_get hi), filter_snoc, if_neg c2, List.append_nil]
          exact hqs
      · rintro H' ⟨sH, qs, hD', hqs⟩
        rw [List.length_map, hl, List.take_length] at hqs
        refine ⟨_, rfl, D, qs, qs.length, rfl, SqL.of hD', rfl, _, _, rfl, rfl, (by show (0 : Int) < 2; decide), rfl, _, rfl, ite2 (fun c3 => ?_) (fun c3 => ?_)⟩
        · rw [dV, decide_eq_true_eq] at c3
          refine toI (k _ sH) ?_
          unfold planI
          rw [if_neg c, if_pos (by omega)]
        · rw [dV, decide_eq_true_eq] at c3
          refine toI (k _ sH) ?_
          unfold planI
          rw [if_neg c, if_neg (by omega)]
theorem sc_room : FnScope ["room", "x", "y", "z"] ["room", "x", "y", "z"] (defScope sPlace) := ⟨rfl, rfl, rfl, by decide +kernel, rfl, by decide +kernel, by decide +kernel⟩
theorem ok_place (T : Tx mg) (B : Fb K mg "place_in_room" sPlace ["room", "x", "y", "z"]) (li : Df P w K mg base 2 "lines_of" ["room"] (spLines K)) (pl : Df P w K mg base 6 "place_in_plan" ["lines", "x", "y"] (spPlan K)) (ht : Df P w K mg base 1 "place_in_height" ["h", "z"] spHeight) :
    Df P w K mg base 7 "place_in_room" ["room", "x", "y", "z"] (spPlace K) := by
  refine B.df sc_room (fun vs H Q E h => ?_) (fun f cdv A outer s H vs Q E hr h => ?_)
  · obtain ⟨a, ns, x, y, z, rfl, _⟩ := h
    rfl
  · obtain ⟨a, ns, x, y, z, rfl, hS, hf, hx, hy, k⟩ := h
    have k : ∀ H', Same H H' → Q (.int (placeI (linesM ns) (at_ ns 0) x y z)) H' := k
    obtain ⟨w1, d1, b1⟩ := faultM_parts hf
    obtain ⟨hl3, h3, h64⟩ := whole_len w1
    have sm := sms_of w1 b1
    have l64 : (linesM ns).length ≤ 64 := by unfold linesM; rw [List.length_map, List.length_range]; exact h64
    have a0 : atI (ns.map V.int) 0 = some (.int (at_ ns 0)) := at_ns (j := 0) rfl (by omega)
    refine ⟨_, pss_one (ps_ret (pe_callB (call_min2 rfl) rfl T.min boot_min (pa_cons (pe_df pl hr rfl (pa_cons (pe_df li (hr.mono (by decide)) rfl (pa_cons (pv 0) pa_nil)) (pa_cons (pv 1) (pa_cons (pv 2) pa_nil))))
      (pa_cons (pe_df ht (hr.mono (by decide)) rfl (pa_cons (pe_ix ix_list (pv 0) pe_int (fun _ _ => rfl)) (pa_cons (pv 3) pa_nil))) pa_nil)))), ?_⟩
    refine ⟨_, rfl, a, ns, rfl, hS, w1, fun H1 b s1 hL => ?_⟩
    refine ⟨_, rfl, _, rfl, b, linesM ns, x, y, rfl, hL, sm, l64, hx, hy, fun H2 s2 => ?_⟩
    refine ⟨_, rfl, a, _, _, _, rfl, rfl, (s1.trans s2).seq hS, a0, _, rfl, at_ ns 0, z, rfl, _, _, rfl, ?_⟩
    exact k H2 (s1.trans s2)
end
end Rm

namespace Rm
open PySem PySem.Spec PyProof.Rows L2
open PySem.W (Codec)
/-- over enumerate(a list), in a comprehension -/
theorem lc_enum {K : PySem.W.Frag} {a : Addr} {xs : List V} {g : TG} {tt : TT} {te : TE} {vs : List Nat} {σ : L2.St} {H1 : Hp} {D : Addr} {Qd : Hp → Prop} (Pv : Nat → Hp → Prop) (h0 : Pv 0 (upd H1 D (.lst []))) (hl : ∀ i H, i ≤ xs.length → Pv i H → SqL K H a xs)
    (hs : ∀ i x H T, xs[i]? = some x → H T = none → Pv i H → g (.ref T) (wipe σ vs) (upd H T (.tup [.int (i : Nat), x])) fun σ2 H2 => wipe σ2 vs = wipe σ vs ∧ tt σ2 H2 fun b H3 =>
      if b = true then te σ2 H3 fun y H4 => ∃ acc, H4 D = some (.lst acc) ∧ acc.length < sizeLine ∧ Pv (i + 1) (upd H4 D (.lst (acc ++ [y]))) else Pv (i + 1) H3) (hd : ∀ H, Pv xs.length H → Qd H) :
    ∃ W : Nat → Nat → Hp → Prop, (∃ m, W 0 m (upd H1 D (.lst []))) ∧ ∀ i m H, W i m H →
      ((Ite K a).stop i H ∧ Qd H) ∨ ((Ite K a).go i H ∧ ∃ Nx : Hp → Prop, (∀ H', Nx H' → ∃ m', m' < m ∧ W (i + 1) m' H') ∧ ∀ x H', (Ite K a).yld i H x H' → g x (wipe σ vs) H' fun σ2 H2 => wipe σ2 vs = wipe σ vs ∧ tt σ2 H2 fun b H3 =>
        if b = true then te σ2 H3 fun y H4 => ∃ acc, H4 D = some (.lst acc) ∧ acc.length < sizeLine ∧ Nx (upd H4 D (.lst (acc ++ [y]))) else Nx H3) := by
  refine ⟨fun i m H => m = xs.length - i ∧ i ≤ xs.length ∧ Pv i H, ⟨xs.length, by simp, Nat.zero_le _, h0⟩, ?_⟩
  rintro i m H ⟨rfl, hi, p⟩
  have q := hl i H hi p
  by_cases hlt : i < xs.length
  · refine .inr ⟨⟨xs, xs[i], q, by simp [hlt]⟩, Pv (i + 1), fun H' p' => ⟨xs.length - (i + 1), by omega, rfl, hlt, p'⟩, fun x H' y => ?_⟩
    obtain ⟨T, x', e1, e2, e3, y⟩ := y
    subst e1 e3
    exact hs i x' _ T (y xs q) e2 p
  · have e : i = xs.length := by omega
    subst e
    exact .inl ⟨⟨xs, q, Nat.le_refl _⟩, hd H p⟩
/-- over zip(two lists as long as each other, which the body leaves as they are) -/
theorem for_zip {K : PySem.W.Frag} {a b : Addr} {xs ys : List V} {g : TG} {tb : TS} {D : Ends} {σ : L2.St} {H : Hp} (Pv : Nat → L2.St → Hp → Prop) (h0 : Pv 0 σ H) (hl : ∀ i σ H, i ≤ xs.length → Pv i σ H → SqL K H a xs ∧ SqL K H b ys) (he : xs.length = ys.length)
    (hs : ∀ i x y σ H T, xs[i]? = some x → ys[i]? = some y → H T = none → Pv i σ H → g (.ref T) σ (upd H T (.tup [x, y])) fun σ2 H2 => tb { D with nx := Pv (i + 1), ct := Pv (i + 1), bk := D.nx } σ2 H2) (hd : ∀ σ H, Pv xs.length σ H → D.nx σ H) :
    ∃ W : Nat → Nat → L2.St → Hp → Prop, (∃ m, W 0 m σ H) ∧ ∀ i m σ H, W i m σ H →
      ((Itz K a b).stop i H ∧ D.nx σ H) ∨ ((Itz K a b).go i H ∧ ∃ N : L2.St → Hp → Prop, (∀ σ' H', N σ' H' → ∃ m', m' < m ∧ W (i + 1) m' σ' H') ∧ ∀ x H', (Itz K a b).yld i H x H' → g x σ H' fun σ2 H2 => tb { D with nx := N, ct := N, bk := D.nx } σ2 H2) := by
  refine ⟨fun i m σ H => m = xs.length - i ∧ i ≤ xs.length ∧ Pv i σ H, ⟨xs.length, by simp, Nat.zero_le _, h0⟩, ?_⟩
  rintro i m σ H ⟨rfl, hi, p⟩
  obtain ⟨q1, q2⟩ := hl i σ H hi p
  by_cases hlt : i < xs.length
  · have hlt2 : i < ys.length := by omega
    refine .inr ⟨⟨xs, ys, xs[i], ys[i], q1, q2, by simp [hlt], by simp [hlt2]⟩, Pv (i + 1), fun σ' H' p' => ⟨xs.length - (i + 1), by omega, rfl, hlt, p'⟩, fun x H' y => ?_⟩
    obtain ⟨T, x', y', e1, e2, e3, y1, y2⟩ := y
    subst e1 e3
    exact hs i x' y' σ _ T (y1 xs q1) (y2 ys q2) e2 p
  · have e : i = xs.length := by omega
    subst e
    exact .inl ⟨⟨xs, ys, q1, q2, .inl (Nat.le_refl _)⟩, hd σ H p⟩
/-- two names at once, in a comprehension -/
theorem pg_pair {X : Cx} {K : PySem.W.Frag} {i j : Nat} {x y : Str} {px py pos : Pos} {k : Nat} (hK : X.K = K) (hc : X.calm = true) (hN : X.N.Nodup) (hi : X.N[i]? = some x) (hx : Loc X.env.scope x) (hj : X.N[j]? = some y) (hy : Loc X.env.scope y)
    (hf : X.fn x = true ∨ X.env.scope.names.lookup x = some .local := by first | exact .inl rfl | exact .inr rfl) (hf' : X.fn y = true ∨ X.env.scope.names.lookup y = some .local := by first | exact .inl rfl | exact .inr rfl) :
    PG X (.Tuple [.Name x px, .Name y py] k pos) (gTup K 2 (gCons (gName i) (gCons (gName j) gNil))) := by
  subst hK
  exact pg_tup hc (pgs_cons (pg_name hN hi hx hf) (pgs_cons (pg_name hN hj hy hf') pgs_nil))
theorem int_at {ns : List Int} {i : Nat} {x : V} (h : (ns.map V.int)[i]? = some x) : ∃ n, ns[i]? = some n ∧ x = V.int n := by
  rw [List.getElem?_map] at h
  cases e : ns[i]? with
  | none =>
    rw [e] at h
    cases h
  | some p =>
    rw [e] at h
    exact ⟨p, rfl, (Option.some.inj h).symm⟩
/-! ### the common divisor -/
theorem gcd_step {a b : Int} (ha : 0 < a) (hb : 0 < b) : gcdI b (a % b) = gcdI a b := by
  obtain ⟨m, rfl⟩ := Int.eq_ofNat_of_zero_le (Int.le_of_lt ha)
  obtain ⟨n, rfl⟩ := Int.eq_ofNat_of_zero_le (Int.le_of_lt hb)
  unfold gcdI
  rw [← Int.natCast_emod, Int.gcd_natCast_natCast, Int.gcd_natCast_natCast, Nat.gcd_comm m n, Nat.gcd_rec n m, Nat.gcd_comm]
theorem gcd_zero {a : Int} (ha : 0 < a) : gcdI a 0 = a := by
  unfold gcdI
  rw [Int.gcd_zero_right]
  omega
def spGcd : Sp := fun vs H Q _ => ∃ a b : Int, vs = [.int a, .int b] ∧ 0 < a ∧ 0 ≤ b ∧ Q (.int (gcdI a b)) H
def spNear (K : PySem.W.Frag) : Sp := fun vs H Q _ => ∃ (p : Addr) (a b : Int) (p' : Addr) (c d : Int), vs = [.ref p, .ref p'] ∧ SqT K H p [.int a, .int b] ∧ SqT K H p' [.int c, .int d] ∧ Bt 300 a ∧ Bt 300 b ∧ Bt 300 c ∧ Bt 300 d ∧ Q (.bl (decide (a * d < c * b))) H
def spDepths (K : PySem.W.Frag) : Sp := fun vs H Q _ => ∃ (h : Int) (a : Addr) (ls : List Ln) (p : Addr) (x y z : Int), vs = [.int h, .ref a, .ref p] ∧ LnsAt K H a ls ∧ Sms ls ∧ ls.length ≤ 64 ∧ SqT K H p [.int x, .int y, .int z] ∧ Bt 300 x ∧ Bt 300 y ∧
  ∀ (H' : Hp) (b : Addr), Same H H' → H' b = some (.lst ((ls.map (fun l => side l x y) ++ [z, h - z]).map V.int)) → Q (.ref b) H'
def numsL (l : Ln) : List Int := [l.x0, l.y0, l.x1, l.y1]
def spOnLn (K : PySem.W.Frag) : Sp := fun vs H Q _ => ∃ (p : Addr) (l : Ln) (a : Addr) (x y z d : Int), vs = [.ref p, .ref a] ∧ SqT K H p (tupL l) ∧ SqL K H a [.int x, .int y, .int z, .int d] ∧ (∀ n ∈ numsL l, Bt 20 n) ∧ Bt 280 d ∧ Bt 300 x ∧ Bt 300 y ∧ ∀ H', Same H H' → Q (.bl (common (scl d l) ⟨x, y, x, y⟩)) H'
section
variable {P : Program} {w : World} {K : PySem.W.Frag} {mg : Str → Option Value} {base : Heap}
theorem sc_gcd : FnScope ["one", "other", "rest"] ["one", "other"] (defScope sGcd) := ⟨rfl, rfl, rfl, by decide +kernel, rfl, by decide +kernel, by decide +kernel⟩
theorem ok_gcd (B : Fb K mg "common_divisor" sGcd ["one", "other"]) : Df P w K mg base 1 "common_divisor" ["one", "other"] spGcd := by
  refine B.df sc_gcd (fun vs H Q E h => ?_) (fun f cdv A outer s H vs Q E hr h => ?_)
  · obtain ⟨a, b, rfl, _⟩ := h
    rfl
  · obtain ⟨a, b, rfl, ha, hb, k⟩ := h
    have k : Q (.int (gcdI a b)) H := k
    refine ⟨_, pss_cons (ps_while PassesOwn.never (pt_cmpR op_ne (pv 1) pe_int (nomark _))
        (pss_cons (ps_set (i := 2) sc_gcd.nd rfl (Or.inl rfl) (pe_op op_mod (pv 0) (pv 1)))
        (pss_cons (ps_set (i := 0) sc_gcd.nd rfl (Or.inl rfl) (pv 1))
        (pss_one (ps_set (i := 1) sc_gcd.nd rfl (Or.inl rfl) (pv 2))))))
      (pss_one (ps_ret (pv 0))), ?_⟩
    refine while_by (fun σ H' => ∃ (a' b' : Int) (v2 : Option V), σ = [some (.int a'), some (.int b'), v2] ∧ H' = H ∧ 0 < a' ∧ 0 ≤ b' ∧ gcdI a' b' = gcdI a b) (fun σ _ => match σ with | [_, some (.int b'), _] => b'.toNat | _ => 0) ⟨a, b, none, rfl, rfl, ha, hb, rfl⟩ ?_ ?_
    · rintro σ H' ⟨a', b', v2, rfl, rfl, h1, h2, h3⟩
      refine ⟨_, rfl, rfl, _, rfl, ite2 (fun c => ?_) (fun c => ?_)⟩
      · rw [dV, Bool.not_eq_true', decide_eq_false_iff_not] at c
        have hb' : 0 < b' := by omega
        refine ⟨_, rfl, _, rfl, _, _, rfl, rfl, hb', _, rfl, _, rfl, ?_⟩
        have m0 := Int.emod_nonneg a' (show b' ≠ 0 by omega)
        have m1 := Int.emod_lt_of_pos a' hb'
        refine ⟨⟨b', a' % b', _, rfl, rfl, hb', m0, by rw [gcd_step h1 hb', h3]⟩, ?_⟩
        show (a' % b').toNat < b'.toNat
        omega
      · rw [dV, Bool.not_eq_true', decide_eq_false_iff_not, Decidable.not_not] at c
        refine ⟨_, rfl, toI k ?_⟩
        rw [c, gcd_zero h1] at h3
        exact h3
    · exact fun σ H Q Q' hm ⟨v, e, s, k, ek, q⟩ => ⟨v, e, s, k, ek, hm _ _ q⟩
theorem sc_near : FnScope ["one", "other"] ["one", "other"] (defScope sNear) := ⟨rfl, rfl, rfl, by decide +kernel, rfl, by decide +kernel, by decide +kernel⟩
theorem ok_near (B : Fb K mg "is_nearer" sNear ["one", "other"]) : Df P w K mg base 1 "is_nearer" ["one", "other"] (spNear K) := by
  refine B.df sc_near (fun vs H Q E h => ?_) (fun f cdv A outer s H vs Q E hr h => ?_)
  · obtain ⟨p, a, b, p', c, d, rfl, _⟩ := h
    rfl
  · obtain ⟨p, a, b, p', c, d, rfl, hp, hp', ba, bb, bc, bd, k⟩ := h
    refine ⟨_, pss_one (ps_ret (pe_cmpR op_lt (pe_op op_mulB (pe_ix ix_tup (pv 0) pe_int (fun _ _ => rfl)) (pe_ix ix_tup (pv 1) pe_int (fun _ _ => rfl))) (pe_op op_mulB (pe_ix ix_tup (pv 1) pe_int (fun _ _ => rfl)) (pe_ix ix_tup (pv 0) pe_int (fun _ _ => rfl))) (nomark _))), ?_⟩
    refine ⟨_, rfl, p, _, _, _, rfl, rfl, hp, rfl, _, rfl, p', _, _, _, rfl, rfl, hp', rfl, _, _, rfl, rfl, ba.ok bd (by decide), _, rfl, p', _, _, _, rfl, rfl, hp', rfl, _, rfl, p, _, _, _, rfl, rfl, hp, rfl, _, _, rfl, rfl, bc.ok bb (by decide), _, _, rfl, rfl, ?_⟩
    exact k
theorem sc_depths : FnScope ["h", "lines", "point", "line"] ["h", "lines", "point"] (defScope sDepths) := ⟨rfl, rfl, rfl, by decide +kernel, rfl, by decide +kernel, by decide +kernel⟩
theorem ok_depths (B : Fb K mg "depths" sDepths ["h", "lines", "point"]) (sd : Df P w K mg base 2 "side_of" ["line", "x", "y"] (spSide K)) : Df P w K mg base 3 "depths" ["h", "lines", "point"] (spDepths K) := by
  refine B.df sc_depths (fun vs H Q E h => ?_) (fun f cdv A outer s H vs Q E hr h => ?_)
  · obtain ⟨h, a, ls, p, x, y, z, rfl, _⟩ := h
    rfl
  · obtain ⟨h, a, ls, p, x, y, z, rfl, ⟨ps, hS, hl, hat⟩, sm, h64, hp, hx, hy, k⟩ := h
    refine ⟨_, pss_one (ps_ret (pe_op op_cat (pe_lc (own := [("line", 3)]) rfl sc_depths.nd (pi_list (pv 1)) (by change BlkOk ["h", "lines", "point", "line"] (defScope sDepths) _ [("line", 3)]; exact ⟨rfl, by decide +kernel, by decide +kernel, by decide +kernel, by decide +kernel⟩)
        (fun s H C cl fp => pg_name (i := 3) sc_depths.nd rfl (Or.inl rfl)) (fun s H C cl fp => pts_nil)
        (fun s H C cl fp => pe_df sd hr rfl (pa_cons (pv 3) (pa_cons (pe_ix (r := rIxT K) ix_tup (pv 2) pe_int (fun _ _ => rfl)) (pa_cons (pe_ix (r := rIxT K) ix_tup (pv 2) pe_int (fun _ _ => rfl)) pa_nil)))))
      (pe_lst (pa_cons (pe_ix ix_tup (pv 2) pe_int (fun _ _ => rfl)) (pa_cons (pe_op op_sub (pv 0) (pe_ix ix_tup (pv 2) pe_int (fun _ _ => rfl))) pa_nil))))), ?_⟩
    refine ⟨_, rfl, a, rfl, ⟨_, hS⟩, fun D hD => lc_list (K := K) (a := a) (xs := ps.map V.ref) (fun i H' => Same H H' ∧ H' D = some (.lst (((ls.take i).map fun l => side l x y).map V.int))) ⟨Same.new hD, upd_same⟩ (fun i H' _ ⟨sH, _⟩ => sH.seq hS) ?_ ?_⟩
    · rintro i x' H' hx' ⟨sH, hD'⟩
      obtain ⟨p', hp', rfl⟩ := ref_at hx'
      have hi : i < ls.length := by
        have := (List.getElem?_eq_some_iff.mp hp').1
        omega
      have hq := Same.tup sH (hat i p' hp')
      have hpp := Same.tupT sH hp
      refine ⟨rfl, ?_⟩
      refine ⟨_, rfl, _, rfl, p, _, _, _, rfl, rfl, hpp, rfl, _, rfl, p, _, _, _, rfl, rfl, hpp, rfl, p', lnAt ls i, x, y, rfl, hq, sm i, hx, hy, ?_⟩
      refine ⟨_, hD', (by rw [List.length_map, List.length_map, List.length_take]; exact small1000 (by omega)), fun b o e => ?_, ?_⟩
      · rw [upd_ne (fun z => (by rw [z, hD] at e; cases e))]
        exact sH b o e
      · rw [upd_same, take_snoc (lnAt_get hi), List.map_append, List.map_append]
        rfl
    · rintro H' ⟨sH, hD'⟩
      rw [List.length_map, hl, List.take_length] at hD'
      have hpp := Same.tupT sH hp
      refine ⟨_, rfl, p, _, _, _, rfl, rfl, hpp, rfl, _, rfl, _, rfl, p, _, _, _, rfl, rfl, hpp, rfl, _, _, rfl, rfl, (by show 2 ≤ sizeLine; decide), fun m hm => ?_⟩
      have s2 : Same H' (upd H' m (.lst [.int z, .int (h - z)])) := Same.new hm
      refine ⟨D, m, _, _, rfl, rfl, s2 _ _ hD', upd_same, ?_, fun b hb => ?_⟩
      · rw [List.length_map, List.length_map]
        exact Nat.le_trans (show ls.length + 2 ≤ 66 by omega) (by decide)
      · refine k _ b ((sH.trans s2).trans (Same.new hb)) ?_
        rw [upd_same, List.map_append]
        rfl
theorem sc_onln : FnScope ["line", "place", "larger", "number"] ["line", "place"] (defScope sOnLn) := ⟨rfl, rfl, rfl, by decide +kernel, rfl, by decide +kernel, by decide +kernel⟩
theorem ok_onln (B : Fb K mg "is_on_line" sOnLn ["line", "place"]) (cm : Df P w K mg base 4 "have_common_point" ["one", "other"] (spLn2 K fun l l' => .bl (common l l'))) : Df P w K mg base 5 "is_on_line" ["line", "place"] (spOnLn K) := by
  refine B.df sc_onln (fun vs H Q E h => ?_) (fun f cdv A outer s H vs Q E hr h => ?_)
  · obtain ⟨p, l, a, x, y, z, d, rfl, _⟩ := h
    rfl
  · obtain ⟨p, l, a, x, y, z, d, rfl, hp, ha, bl, bd, bx, by', k⟩ := h
    have k : ∀ H', Same H H' → Q (.bl (common (scl d l) ⟨x, y, x, y⟩)) H' := k
    refine ⟨_, pss_cons (ps_setLc (i := 2) (own := [("number", 3)]) rfl sc_onln.nd rfl rfl rfl (pi_tup (pv 0)) (by change BlkOk ["line", "place", "larger", "number"] (defScope sOnLn) _ [("number", 3)]; exact ⟨rfl, by decide +kernel, by decide +kernel, by decide +kernel, by decide +kernel⟩)
        (fun s H C cl fp => pg_name (i := 3) sc_onln.nd rfl (Or.inl rfl)) (fun s H C cl fp => pts_nil)
        (fun s H C cl fp => pe_op op_mulB (pv 3) (pe_ix (r := rIxL K) ix_list (pv 1) pe_int (fun _ _ => rfl))))
      (pss_one (ps_ret (pe_df cm hr rfl (pa_cons (pv 2) (pa_cons (pe_tup (pa_cons (pe_ix ix_list (pv 1) pe_int (fun _ _ => rfl)) (pa_cons (pe_ix ix_list (pv 1) pe_int (fun _ _ => rfl)) (pa_cons (pe_ix ix_list (pv 1) pe_int (fun _ _ => rfl)) (pa_cons (pe_ix ix_list (pv 1) pe_int (fun _ _ => rfl)) pa_nil))))) pa_nil))))), ?_⟩
    refine ⟨_, rfl, p, rfl, ⟨_, hp⟩, fun D hD => lc_tup (K := K) (a := p) (xs := (numsL l).map V.int) (fun i H' => Same H H' ∧ H' D = some (.lst ((((numsL l).take i).map fun n => n * d).map V.int))) ⟨Same.new hD, upd_same⟩ (fun i H' _ ⟨sH, _⟩ => Same.tupT sH hp) ?_ ?_⟩
    · rintro i x' H' hx' ⟨sH, hD'⟩
      obtain ⟨n, hn, rfl⟩ := int_at hx'
      refine ⟨rfl, ?_⟩
      refine ⟨_, rfl, _, rfl, a, _, _, _, rfl, rfl, sH.seq ha, rfl, _, _, rfl, rfl, (bl n (List.mem_of_getElem? hn)).ok bd (by decide), ?_⟩
      refine ⟨_, hD', (by rw [List.length_map, List.length_map, List.length_take]; exact small1000 (Nat.le_trans (Nat.min_le_right _ _) (by show 4 ≤ 1000; decide))), fun b o e => ?_, ?_⟩
      · rw [upd_ne (fun z => (by rw [z, hD] at e; cases e))]
        exact sH b o e
      · rw [upd_same, take_snoc hn, List.map_append, List.map_append]
        rfl
    · rintro H' ⟨sH, hD'⟩
      rw [List.length_map, List.take_length] at hD'
      have hA := sH.seq ha
      refine ⟨_, rfl, _, rfl, a, _, _, _, rfl, rfl, hA, rfl, _, rfl, a, _, _, _, rfl, rfl, hA, rfl, _, rfl, a, _, _, _, rfl, rfl, hA, rfl, _, rfl, a, _, _, _, rfl, rfl, hA, rfl, (by show 4 ≤ sizeLine; decide), fun q hq => ?_⟩
      have s2 : Same H' (upd H' q (.tup [.int x, .int y, .int x, .int y])) := Same.new hq
      have sml : Sm (scl d l) := ⟨(bl l.x0 (by simp [numsL])).mul bd, (bl l.y0 (by simp [numsL])).mul bd, (bl l.x1 (by simp [numsL])).mul bd, (bl l.y1 (by simp [numsL])).mul bd⟩
      exact ⟨D, scl d l, q, ⟨x, y, x, y⟩, rfl, SqX.ofL (s2 _ _ hD'), SqX.of upd_same, sml, ⟨bx, by', bx, by'⟩, k _ (sH.trans s2)⟩
end
end Rm

namespace Rm
open PySem PySem.Spec PyProof.Rows L2
open PySem.W (Codec)
def spWalls (K : PySem.W.Frag) : Sp := fun vs H Q _ => ∃ (a : Addr) (ns : List Int) (b : Addr) (x y z d : Int), vs = [.ref a, .ref b] ∧ SqL K H a (ns.map V.int) ∧ faultM ns = none ∧ SqL K H b [.int x, .int y, .int z, .int d] ∧ Bt 280 d ∧ Bt 300 x ∧ Bt 300 y ∧
  ∀ (H' : Hp) (c : Addr), Same H H' → H' c = some (.lst ((wallsI (linesM ns) (at_ ns 0) x y z d).map V.int)) → Q (.ref c) H'
theorem bt_small {z : Int} (h : 0 ≤ z ∧ z ≤ 4095) : Bt 20 z := intBits_le_iff.mpr (Nat.lt_of_lt_of_le (show z.natAbs < 2 ^ 12 by omega) (Nat.pow_le_pow_right (by decide) (by decide)))
theorem nums_small {l : Ln} (h : InBox l) : ∀ n ∈ numsL l, Bt 20 n := fun n hn => by
  obtain ⟨a, b, c, d⟩ := h
  have hn : n = l.x0 ∨ n = l.y0 ∨ n = l.x1 ∨ n = l.y1 := by simpa [numsL] using hn
  rcases hn with e | e | e | e <;> rw [e]
  · exact bt_small a
  · exact bt_small b
  · exact bt_small c
  · exact bt_small d
theorem range_filter_snoc (p : Nat → Bool) (i : Nat) : (List.range (i + 1)).filter p = (List.range i).filter p ++ (if p i = true then [i] else []) := by
  rw [List.range_succ, filter_snoc]
section
variable {P : Program} {w : World} {K : PySem.W.Frag} {mg : Str → Option Value} {base : Heap}
theorem sc_walls : FnScope ["room", "place", "lines", "walls", "wall", "line"] ["room", "place"] (defScope sWalls) := ⟨rfl, rfl, rfl, by decide +kernel, rfl, by decide +kernel, by decide +kernel⟩
theorem ok_walls (T : Tx mg) (B : Fb K mg "walls_at" sWalls ["room", "place"]) (li : Df P w K mg base 2 "lines_of" ["room"] (spLines K)) (ol : Df P w K mg base 5 "is_on_line" ["line", "place"] (spOnLn K)) : Df P w K mg base 6 "walls_at" ["room", "place"] (spWalls K) := by
  refine B.df sc_walls (fun vs H Q E h => ?_) (fun f cdv A outer s H vs Q E hr h => ?_)
  · obtain ⟨a, ns, b, x, y, z, d, rfl, _⟩ := h
    rfl
  · obtain ⟨a, ns, pl, x, y, z, d, rfl, hS, hf, hpl, bd, bx, by', k⟩ := h
    obtain ⟨w1, d1, b1⟩ := faultM_parts hf
    obtain ⟨hl3, h3, h64⟩ := whole_len w1
    have a0 : atI (ns.map V.int) 0 = some (.int (at_ ns 0)) := at_ns (j := 0) rfl (by omega)
    have h0b : Bt 20 (at_ ns 0) := by
      unfold head at d1
      simp only [Bool.and_eq_true, decide_eq_true_eq] at d1
      exact bt_small ⟨by omega, d1.1.2⟩
    refine ⟨_, pss_cons (ps_set (i := 2) sc_walls.nd rfl (Or.inl rfl) (pe_df li (hr.mono (by decide)) rfl (pa_cons (pv 0) pa_nil)))
      (pss_cons (ps_setLc (i := 3) (own := [("wall", 4), ("line", 5)]) rfl sc_walls.nd rfl rfl rfl (pi_enum rfl T.enum (pa_cons (pv 2) pa_nil)) (by change BlkOk ["room", "place", "lines", "walls", "wall", "line"] (defScope sWalls) _ [("wall", 4), ("line", 5)]; exact ⟨rfl, by decide +kernel, by decide +kernel, by decide +kernel, by decide +kernel⟩)
        (fun s H C cl fp => pg_pair (K := K) (i := 4) (j := 5) rfl rfl sc_walls.nd rfl (Or.inl rfl) rfl (Or.inl rfl))
        (fun s H C cl fp => pts_one (pt_val (pe_df ol hr rfl (pa_cons (pv 5) (pa_cons (pv 1) pa_nil))))) (fun s H C cl fp => pv 4))
      (pss_cons (ps_if (pt_cmpR op_eq (pe_ix ix_list (pv 1) pe_int (fun _ _ => rfl)) pe_int (nomark _)) (pss_one (ps_expr (pe_bm PySem.F.plainAttrs_list PySem.F.slot_list_append PySem.F.type_list_append mt_append (pv 3) (pa_cons (pe_callB call_lenN rfl T.len PySem.boot_len (pa_cons (pv 2) pa_nil)) pa_nil)))) pss_nil)
      (pss_cons (ps_if (pt_cmpR op_eq (pe_ix ix_list (pv 1) pe_int (fun _ _ => rfl)) (pe_op op_mulB (pe_ix ix_list (pv 0) pe_int (fun _ _ => rfl)) (pe_ix ix_list (pv 1) pe_int (fun _ _ => rfl))) (nomark _))
        (pss_one (ps_expr (pe_bm PySem.F.plainAttrs_list PySem.F.slot_list_append PySem.F.type_list_append mt_append (pv 3) (pa_cons (pe_op op_add (pe_callB call_lenN rfl T.len PySem.boot_len (pa_cons (pv 2) pa_nil)) pe_int) pa_nil)))) pss_nil)
      (pss_one (ps_ret (pv 3)))))), ?_⟩
    refine ⟨_, rfl, a, ns, rfl, hS, w1, fun H1 b s1 hL => ?_⟩
    obtain ⟨ps, hP, hpl', hat⟩ := hL.ex
    have hlen : (ps.map V.ref).length = cnt ns := by rw [List.length_map, hpl', len_lines]
    refine ⟨_, rfl, b, _, rfl, hP, fun D hD => lc_enum (K := K) (a := b) (xs := ps.map V.ref) (fun i H' => Same H1 H' ∧ H' D = some (.lst ((((List.range i).filter fun i => common (scl d (lnAt (linesM ns) i)) ⟨x, y, x, y⟩).map fun i : Nat => (i : Int)).map V.int))) ⟨Same.new hD, upd_same⟩ (fun i H' _ ⟨sH, _⟩ => sH.seq hP) ?_ ?_⟩
    · rintro i x' H' t hx' ht ⟨sH, hD'⟩
      obtain ⟨p, hp, rfl⟩ := ref_at hx'
      have hi : i < cnt ns := by
        have := (List.getElem?_eq_some_iff.mp hp).1
        rw [hpl', len_lines] at this
        exact this
      have s2 : Same H' (upd H' t (.tup [.int (i : Nat), V.ref p])) := Same.new ht
      have s02 := (s1.trans sH).trans s2
      refine ⟨t, _, rfl, SqT.of upd_same, rfl, _, _, rfl, _, _, rfl, rfl, ?_⟩
      refine ⟨rfl, _, rfl, _, rfl, p, lnAt (linesM ns) i, pl, x, y, z, d, rfl, Same.tupT (sH.trans s2) (hat i p hp), s02.seq hpl, nums_small (box_of hf hi), bd, bx, by', fun H3 s3 => ?_⟩
      have s13 := (sH.trans s2).trans s3
      have hD3 := s3 _ _ (s2 _ _ hD')
      refine ⟨_, rfl, ite2 (fun c => ?_) (fun c => ?_)⟩
      · refine ⟨_, rfl, _, hD3, ?_, fun b o e => ?_, ?_⟩
        · rw [List.length_map, List.length_map]
          exact small1000 (Nat.le_trans (List.length_filter_le _ _) (by rw [List.length_range]; omega))
        · rw [upd_ne (fun z => (by rw [z, hD] at e; cases e))]
          exact s13 b o e
        · rw [upd_same, range_filter_snoc, if_pos c, List.map_append, List.map_append]
          rfl
      · refine ⟨s13, ?_⟩
        rw [range_filter_snoc, if_neg c, List.append_nil]
        exact hD3
    · rintro H2 ⟨s2, hD2⟩
      rw [hlen] at hD2
      have fl : ((List.range (cnt ns)).filter fun i => common (scl d (lnAt (linesM ns) i)) ⟨x, y, x, y⟩).length ≤ 64 := Nat.le_trans (List.length_filter_le _ _) (by rw [List.length_range]; omega)
      have es : wallsI (linesM ns) (at_ ns 0) x y z d = ((((List.range (cnt ns)).filter fun i => common (scl d (lnAt (linesM ns) i)) ⟨x, y, x, y⟩).map fun i : Nat => (i : Int)) ++ (if z = 0 then [(cnt ns : Int)] else [])) ++ (if z = at_ ns 0 * d then [(cnt ns : Int) + 1] else []) := by
        unfold wallsI
        rw [len_lines]
      revert fl es hD2
      generalize (((List.range (cnt ns)).filter fun i => common (scl d (lnAt (linesM ns) i)) ⟨x, y, x, y⟩)) = F0
      intro hD2 fl es
      have s02 := s1.trans s2
      have old : ∀ (b : Addr) (o : HO), H b = some o → b ≠ D := fun b o e z => by
        rw [z] at e
        rw [s1 _ _ e] at hD
        cases hD
      have old1 : ∀ (b : Addr) (o : HO), H1 b = some o → b ≠ D := fun b o e z => by
        rw [z, hD] at e
        cases e
      refine ⟨_, rfl, pl, _, _, _, rfl, rfl, s02.seq hpl, rfl, rfl, _, rfl, ite2 (fun c1 => ?_) (fun c1 => ?_)⟩
      · rw [dV, decide_eq_true_eq] at c1
        rw [if_pos c1] at es
        refine ⟨_, rfl, .inl ⟨rfl, _, SqL.of hD2⟩, _, rfl, b, _, cnt ns, rfl, s2.seq hP, hlen, D, _, _, rfl, rfl, hD2, (by rw [List.length_map, List.length_map]; exact small1000 (by omega)), ?_⟩
        have s3 : Same H (upd H2 D (.lst ((F0.map fun i : Nat => (i : Int)).map V.int ++ [V.int (cnt ns : Int)]))) := fun b o e => by
          rw [upd_ne (old b o e)]
          exact s02 b o e
        have s31 : Same H1 (upd H2 D (.lst ((F0.map fun i : Nat => (i : Int)).map V.int ++ [V.int (cnt ns : Int)]))) := fun b o e => by
          rw [upd_ne (old1 b o e)]
          exact s2 b o e
        refine ⟨_, rfl, pl, _, _, _, rfl, rfl, s3.seq hpl, rfl, _, rfl, a, _, _, _, rfl, rfl, s3.seq hS, a0, _, rfl, pl, _, _, _, rfl, rfl, s3.seq hpl, rfl, _, _, rfl, rfl, h0b.ok bd (by decide), rfl, _, rfl, ite2 (fun c2 => ?_) (fun c2 => ?_)⟩
        · rw [dV, decide_eq_true_eq] at c2
          rw [if_pos c2] at es
          refine ⟨_, rfl, .inl ⟨rfl, _, SqL.of upd_same⟩, _, rfl, b, _, cnt ns, rfl, s31.seq hP, hlen, _, _, rfl, rfl, D, _, _, rfl, rfl, upd_same, (by rw [List.length_append, List.length_map, List.length_map]; exact small1000 (by show F0.length + 1 ≤ 1000; omega)), ?_⟩
          refine ⟨_, rfl, k _ D (fun b o e => ?_) ?_⟩
          · rw [upd_ne (old b o e)]
            exact s3 b o e
          · rw [upd_same, es, List.map_append, List.map_append]
            rfl
        · rw [dV, decide_eq_true_eq] at c2
          rw [if_neg c2, List.append_nil] at es
          refine ⟨_, rfl, k _ D s3 ?_⟩
          rw [upd_same, es, List.map_append]
          rfl
      · rw [dV, decide_eq_true_eq] at c1
        rw [if_neg c1, List.append_nil] at es
        refine ⟨_, rfl, pl, _, _, _, rfl, rfl, s02.seq hpl, rfl, _, rfl, a, _, _, _, rfl, rfl, s02.seq hS, a0, _, rfl, pl, _, _, _, rfl, rfl, s02.seq hpl, rfl, _, _, rfl, rfl, h0b.ok bd (by decide), rfl, _, rfl, ite2 (fun c2 => ?_) (fun c2 => ?_)⟩
        · rw [dV, decide_eq_true_eq] at c2
          rw [if_pos c2] at es
          refine ⟨_, rfl, .inl ⟨rfl, _, SqL.of hD2⟩, _, rfl, b, _, cnt ns, rfl, s2.seq hP, hlen, _, _, rfl, rfl, D, _, _, rfl, rfl, hD2, (by rw [List.length_map, List.length_map]; exact small1000 (by omega)), ?_⟩
          refine ⟨_, rfl, k _ D (fun b o e => ?_) ?_⟩
          · rw [upd_ne (old b o e)]
            exact s02 b o e
          · rw [upd_same, es, List.map_append]
            rfl
        · rw [dV, decide_eq_true_eq] at c2
          rw [if_neg c2, List.append_nil] at es
          refine ⟨_, rfl, k _ D s02 ?_⟩
          rw [es]
          exact hD2
end
end Rm

namespace Rm
open PySem PySem.Spec PyProof.Rows L2
open PySem.W (Codec)
theorem gcd_pos {a b : Int} (ha : 0 < a) : 0 < gcdI a b := by
  have d : gcdI a b ∣ a := Int.gcd_dvd_left a b
  have nn : 0 ≤ gcdI a b := Int.natCast_nonneg _
  have : gcdI a b ≠ 0 := fun z => by
    rw [z] at d
    have := Int.zero_dvd.mp d
    omega
  omega
theorem bt_le {n : Nat} {a b : Int} (ha : 0 < a) (hab : a ≤ b) (h : Bt n b) : Bt n a := by
  have h2 : b.natAbs < 2 ^ n := intBits_le_iff.mp h
  exact intBits_le_iff.mpr (by omega)
def plN (p q N D : Int) : Int := p * D + (q - p) * N
def num4 (px py pz qx qy qz N D : Int) : List Int := [plN px qx N D, plN py qy N D, plN pz qz N D, D]
def spOnWay (K : PySem.W.Frag) : Sp := fun vs H Q _ => ∃ (p q t : Addr) (px py pz qx qy qz N D : Int), vs = [.ref p, .ref q, .ref t] ∧ SqT K H p [.int px, .int py, .int pz] ∧ SqT K H q [.int qx, .int qy, .int qz] ∧ SqT K H t [.int N, .int D] ∧
  (Bt 300 px ∧ Bt 300 py ∧ Bt 300 pz) ∧ (Bt 300 qx ∧ Bt 300 qy ∧ Bt 300 qz) ∧ Bt 300 N ∧ Bt 300 D ∧ 0 < D ∧ (0 ≤ plN px qx N D ∧ 0 ≤ plN py qy N D ∧ 0 ≤ plN pz qz N D) ∧
  ∀ (H' : Hp) (b : Addr), Same H H' → H' b = some (.lst ((placeL px py pz qx qy qz (N, D)).map V.int)) → Q (.ref b) H'
section
variable {P : Program} {w : World} {K : PySem.W.Frag} {mg : Str → Option Value} {base : Heap}
theorem sc_onway : FnScope ["p", "q", "stop", "over", "place", "divisor", "number", "axis"] ["p", "q", "stop"] (defScope sOnWay) := ⟨rfl, rfl, rfl, by decide +kernel, rfl, by decide +kernel, by decide +kernel⟩
theorem ok_onway (T : Tx mg) (B : Fb K mg "place_on_way" sOnWay ["p", "q", "stop"]) (gc : Df P w K mg base 1 "common_divisor" ["one", "other"] spGcd) : Df P w K mg base 2 "place_on_way" ["p", "q", "stop"] (spOnWay K) := by
  refine B.df sc_onway (fun vs H Q E h => ?_) (fun f cdv A outer s H vs Q E hr h => ?_)
  · obtain ⟨p, q, t, px, py, pz, qx, qy, qz, N, D, rfl, _⟩ := h
    rfl
  · obtain ⟨p, q, t, px, py, pz, qx, qy, qz, N, D, rfl, hp, hq, ht, ⟨bx, by1, bz⟩, ⟨bu, bv, bw⟩, bN, bD, d0, ⟨x0, y0, z0⟩, k⟩ := h
    refine ⟨_, pss_cons (ps_set (i := 3) sc_onway.nd rfl (Or.inr rfl) (pe_ix ix_tup (pv 2) pe_int (fun _ _ => rfl)))
      (pss_cons (ps_set (i := 4) sc_onway.nd rfl (Or.inl rfl) (pe_op op_cat (pe_lc (own := [("axis", 7)]) rfl sc_onway.nd (pi_range1 rfl T.range (pa_cons pe_int pa_nil)) (by change BlkOk ["p", "q", "stop", "over", "place", "divisor", "number", "axis"] (defScope sOnWay) _ [("axis", 7)]; exact ⟨rfl, by decide +kernel, by decide +kernel, by decide +kernel, by decide +kernel⟩)
          (fun s H C cl fp => pg_name (i := 7) sc_onway.nd rfl (Or.inl rfl)) (fun s H C cl fp => pts_nil)
          (fun s H C cl fp => pe_op op_add (pe_op op_mulB (pe_ix (r := rIxT K) ix_tup (pv 0) (pv 7) (fun _ _ => rfl)) (pv 3)) (pe_op op_mulB (pe_op op_sub (pe_ix (r := rIxT K) ix_tup (pv 1) (pv 7) (fun _ _ => rfl)) (pe_ix (r := rIxT K) ix_tup (pv 0) (pv 7) (fun _ _ => rfl))) (pe_ix (r := rIxT K) ix_tup (pv 2) pe_int (fun _ _ => rfl)))))
        (pe_lst (pa_cons (pv 3) pa_nil))))
      (pss_cons (ps_set (i := 5) sc_onway.nd rfl (Or.inr rfl) (pv 3))
      (pss_cons (ps_for PassesOwn.never rfl (pi_list (pv 4)) (pg_name (i := 6) sc_onway.nd rfl (Or.inl rfl)) (pss_one (ps_set (i := 5) sc_onway.nd rfl (Or.inr rfl) (pe_df gc hr rfl (pa_cons (pv 5) (pa_cons (pv 6) pa_nil))))))
      (pss_one (ps_ret (pe_lc (own := [("number", 6)]) rfl sc_onway.nd (pi_list (pv 4)) (by change BlkOk ["p", "q", "stop", "over", "place", "divisor", "number", "axis"] (defScope sOnWay) _ [("number", 6)]; exact ⟨rfl, by decide +kernel, by decide +kernel, by decide +kernel, by decide +kernel⟩)
        (fun s H C cl fp => pg_name (i := 6) sc_onway.nd rfl (Or.inl rfl)) (fun s H C cl fp => pts_nil) (fun s H C cl fp => pe_op op_fdivB (pv 6) (pv 5)))))))), ?_⟩
    refine ⟨_, rfl, t, _, _, _, rfl, rfl, ht, rfl, ?_⟩
    refine ⟨3, rfl, by decide, by decide, fun C hC => lc_range (lo := 0) (n := 3) (fun i H' => Same H H' ∧ H' C = some (.lst (((num4 px py pz qx qy qz N D).take i).map V.int))) ⟨Same.new hC, upd_same⟩ ?_ ?_⟩
    · rintro i H' hi ⟨sH, hD'⟩
      have hpp := Same.tupT sH hp
      have hqq := Same.tupT sH hq
      have htt := Same.tupT sH ht
      have hi3 : i = 0 ∨ i = 1 ∨ i = 2 := by omega
      rcases hi3 with rfl | rfl | rfl
      · refine ⟨rfl, ?_⟩
        refine ⟨_, rfl, _, rfl, p, _, _, _, rfl, rfl, hpp, rfl, _, rfl, _, _, rfl, rfl, bx.ok bD (by decide), _, rfl, _, rfl, q, _, _, _, rfl, rfl, hqq, rfl, _, rfl, _, rfl, p, _, _, _, rfl, rfl, hpp, rfl, _, _, rfl, rfl, _, rfl, t, _, _, _, rfl, rfl, htt, rfl, _, _, rfl, rfl, (bu.sub bx).ok bN (by decide), _, _, rfl, rfl, ?_⟩
        refine ⟨_, hD', (by show 0 < sizeLine; decide), fun b o e => ?_, ?_⟩
        · rw [upd_ne (fun z => (by rw [z, hC] at e; cases e))]
          exact sH b o e
        · rw [upd_same]
          rfl
      · refine ⟨rfl, ?_⟩
        refine ⟨_, rfl, _, rfl, p, _, _, _, rfl, rfl, hpp, rfl, _, rfl, _, _, rfl, rfl, by1.ok bD (by decide), _, rfl, _, rfl, q, _, _, _, rfl, rfl, hqq, rfl, _, rfl, _, rfl, p, _, _, _, rfl, rfl, hpp, rfl, _, _, rfl, rfl, _, rfl, t, _, _, _, rfl, rfl, htt, rfl, _, _, rfl, rfl, (bv.sub by1).ok bN (by decide), _, _, rfl, rfl, ?_⟩
        refine ⟨_, hD', (by show 1 < sizeLine; decide), fun b o e => ?_, ?_⟩
        · rw [upd_ne (fun z => (by rw [z, hC] at e; cases e))]
          exact sH b o e
        · rw [upd_same]
          rfl
      · refine ⟨rfl, ?_⟩
        refine ⟨_, rfl, _, rfl, p, _, _, _, rfl, rfl, hpp, rfl, _, rfl, _, _, rfl, rfl, bz.ok bD (by decide), _, rfl, _, rfl, q, _, _, _, rfl, rfl, hqq, rfl, _, rfl, _, rfl, p, _, _, _, rfl, rfl, hpp, rfl, _, _, rfl, rfl, _, rfl, t, _, _, _, rfl, rfl, htt, rfl, _, _, rfl, rfl, (bw.sub bz).ok bN (by decide), _, _, rfl, rfl, ?_⟩
        refine ⟨_, hD', (by show 2 < sizeLine; decide), fun b o e => ?_, ?_⟩
        · rw [upd_ne (fun z => (by rw [z, hC] at e; cases e))]
          exact sH b o e
        · rw [upd_same]
          rfl
    · rintro H1 ⟨s1, hC1⟩
      refine ⟨_, rfl, (by show 1 ≤ sizeLine; decide), fun m hm => ?_⟩
      have s2 : Same H1 (upd H1 m (.lst [.int D])) := Same.new hm
      refine ⟨C, m, _, _, rfl, rfl, s2 _ _ hC1, upd_same, (by show 3 + 1 ≤ sizeLine; decide), fun M hM => ?_⟩
      have s3 := Same.new (o := HO.lst ((num4 px py pz qx qy qz N D).map V.int)) hM
      have hMM : (upd (upd H1 m (.lst [.int D])) M (.lst ((num4 px py pz qx qy qz N D).map V.int))) M = some (.lst ((num4 px py pz qx qy qz N D).map V.int)) := upd_same
      have s03 := (s1.trans s2).trans s3
      show _
      refine ⟨_, rfl, _, rfl, M, rfl, ⟨_, SqL.of hMM⟩, for_list (K := K) (a := M) (xs := (num4 px py pz qx qy qz N D).map V.int) (fun i σ H' => ∃ v6 v7 : Option V, σ = [some (.ref p), some (.ref q), some (.ref t), some (.int D), some (.ref M), some (.int (((num4 px py pz qx qy qz N D).take i).foldl gcdI D)), v6, v7] ∧ H' = (upd (upd H1 m (.lst [.int D])) M (.lst ((num4 px py pz qx qy qz N D).map V.int))) ∧ 0 < ((num4 px py pz qx qy qz N D).take i).foldl gcdI D)
        ⟨none, none, rfl, rfl, d0⟩ (fun i σ H' _ ⟨_, _, _, e, _⟩ => by rw [e]; exact SqL.of hMM) ?_ ?_⟩
      · rintro i x' σ H' hx' ⟨v6, v7, rfl, rfl, g0⟩
        obtain ⟨n, hn, rfl⟩ := int_at hx'
        have n0 : 0 ≤ n := by
          have : n ∈ num4 px py pz qx qy qz N D := List.mem_of_getElem? hn
          have : n = plN px qx N D ∨ n = plN py qy N D ∨ n = plN pz qz N D ∨ n = D := by simpa [num4] using this
          rcases this with e | e | e | e <;> rw [e] <;> omega
        refine ⟨_, rfl, _, rfl, _, n, rfl, g0, n0, ?_⟩
        have ef : ((num4 px py pz qx qy qz N D).take (i + 1)).foldl gcdI D = gcdI (((num4 px py pz qx qy qz N D).take i).foldl gcdI D) n := by
          rw [take_snoc hn, List.foldl_append]
          rfl
        refine ⟨some (.int n), v7, ?_, rfl, by rw [ef]; exact gcd_pos g0⟩
        rw [ef]
        rfl
      · rintro σ H' ⟨v6, v7, rfl, rfl, g0⟩
        have eg : ((num4 px py pz qx qy qz N D).take ((num4 px py pz qx qy qz N D).map V.int).length).foldl gcdI D = gcd4I (plN px qx N D) (plN py qy N D) (plN pz qz N D) D := rfl
        rw [eg] at g0
        have bg : Bt 300 (gcd4I (plN px qx N D) (plN py qy N D) (plN pz qz N D) D) := bt_le g0 (Int.le_of_dvd d0 (gcd4_ok d0).gw) bD
        refine ⟨_, rfl, M, rfl, ⟨_, SqL.of hMM⟩, fun R hR => lc_list (K := K) (a := M) (xs := (num4 px py pz qx qy qz N D).map V.int) (fun i H' => Same (upd (upd H1 m (.lst [.int D])) M (.lst ((num4 px py pz qx qy qz N D).map V.int))) H' ∧ H' R = some (.lst ((((num4 px py pz qx qy qz N D).take i).map fun n => n / gcd4I (plN px qx N D) (plN py qy N D) (plN pz qz N D) D).map V.int))) ⟨Same.new hR, upd_same⟩ (fun i H' _ ⟨sH, _⟩ => sH.seq (SqL.of hMM)) ?_ ?_⟩
        · rintro i x' H' hx' ⟨sH, hR'⟩
          obtain ⟨n, hn, rfl⟩ := int_at hx'
          refine ⟨rfl, ?_⟩
          refine ⟨_, rfl, _, rfl, _, _, rfl, rfl, ⟨g0, bg⟩, ?_⟩
          refine ⟨_, hR', (by rw [List.length_map, List.length_map, List.length_take]; exact small1000 (Nat.le_trans (Nat.min_le_right _ _) (by show 4 ≤ 1000; decide))), fun b o e => ?_, ?_⟩
          · rw [upd_ne (fun z => (by rw [z, hR] at e; cases e))]
            exact sH b o e
          · rw [upd_same, take_snoc hn, List.map_append, List.map_append]
            rfl
        · rintro H' ⟨sH, hR'⟩
          rw [List.length_map, List.take_length] at hR'
          exact k H' R (s03.trans sH) hR'
end
end Rm

namespace Rm
open PySem PySem.Spec PyProof.Rows L2
open PySem.W (Codec)
structure Tz (mg : Str → Option Value) : Prop where
  zip : mg "zip" = none
theorem bt_box {z : Int} (h : 0 ≤ z ∧ z ≤ 4095) : Bt 12 z := intBits_le_iff.mpr (show z.natAbs < 2 ^ 12 by omega)
theorem bt_req {z : Int} (h1 : -115792089237316195423570985008687907853269984665640564039457584007913129639936 ≤ z) (h2 : z ≤ 115792089237316195423570985008687907853269984665640564039457584007913129639935) : Bt 257 z := by
  have e : (115792089237316195423570985008687907853269984665640564039457584007913129639936 : Nat) = 2 ^ 256 := by decide
  refine intBits_le_iff.mpr ?_
  rw [Nat.pow_succ, ← e]
  omega
theorem side_bt {l : Ln} (h : InBox l) {x y : Int} (hx : Bt 257 x) (hy : Bt 257 y) : Bt 272 (side l x y) := by
  obtain ⟨a, b, c, d⟩ := h
  exact (((bt_box c).sub (bt_box a)).mul (hy.sub ((bt_box b).le (by decide)))).sub (((bt_box d).sub (bt_box b)).mul (hx.sub ((bt_box a).le (by decide))))
theorem head_box {ns : List Int} (h : faultM ns = none) : 0 ≤ at_ ns 0 ∧ at_ ns 0 ≤ 4095 := by
  obtain ⟨w1, d1, b1⟩ := faultM_parts h
  unfold head at d1
  simp only [Bool.and_eq_true, decide_eq_true_eq] at d1
  exact ⟨by omega, d1.1.2⟩
theorem pairs_bt {ns : List Int} (h : faultM ns = none) {px py pz qx qy qz : Int} (b1 : Bt 257 px) (b2 : Bt 257 py) (b3 : Bt 257 pz) (b4 : Bt 257 qx) (b5 : Bt 257 qy) (b6 : Bt 257 qz) : ∀ a ∈ pairsI (linesM ns) (at_ ns 0) px py pz qx qy qz, Bt 272 a.1 ∧ Bt 272 a.2 := fun a ha => by
  unfold pairsI at ha
  rcases List.mem_append.mp ha with q | q
  · obtain ⟨l, hl, e⟩ := List.mem_map.mp q
    obtain ⟨w, hw, el⟩ := lnAt_mem (List.mem_filter.mp hl).1
    rw [len_lines] at hw
    have bx := box_of h hw
    rw [el] at bx
    rw [← e]
    exact ⟨side_bt bx b1 b2, side_bt bx b4 b5⟩
  · have q : a = (pz, qz) ∨ a = (at_ ns 0 - pz, at_ ns 0 - qz) := by simpa using q
    have hb := bt_box (head_box h)
    rcases q with q | q <;> rw [q]
    · exact ⟨b3.le (by decide), b6.le (by decide)⟩
    · exact ⟨((hb.le (by decide)).sub b3).le (by decide), ((hb.le (by decide)).sub b6).le (by decide)⟩
theorem stop_bt {l : List (Int × Int)} (h : ∀ a ∈ l, Bt 272 a.1 ∧ Bt 272 a.2) {s : Option (Int × Int)} (S : StopOf l s) {f : Int × Int} (e : s = some f) : Bt 272 f.1 ∧ Bt 273 f.2 := by
  obtain ⟨a, ha, _, ef⟩ := S.ex f e
  rw [ef]
  exact ⟨(h a ha).1, (h a ha).1.sub (h a ha).2⟩
theorem sms_filter {ls : List Ln} (h : Sms ls) (r : Ln → Bool) : Sms (ls.filter r) := fun i => by
  by_cases hi : i < (ls.filter r).length
  · obtain ⟨w, _, e⟩ := lnAt_mem (List.mem_filter.mp (mem_lnAt hi)).1
    rw [← e]
    exact h w
  · have e : lnAt (ls.filter r) i = lnAt ls ls.length := by
      unfold lnAt
      rw [List.getD_eq_getElem?_getD, List.getD_eq_getElem?_getD, List.getElem?_eq_none (by omega), List.getElem?_eq_none (Nat.le_refl _)]
    rw [e]
    exact h _
theorem pairs_fst (ls : List Ln) (h px py pz qx qy qz : Int) : (pairsI ls h px py pz qx qy qz).map (·.1) = (ls.filter fun l => reach l ⟨px, py, qx, qy⟩).map (fun l => side l px py) ++ [pz, h - pz] := by
  unfold pairsI
  rw [List.map_append, List.map_map]
  rfl
theorem pairs_snd (ls : List Ln) (h px py pz qx qy qz : Int) : (pairsI ls h px py pz qx qy qz).map (·.2) = (ls.filter fun l => reach l ⟨px, py, qx, qy⟩).map (fun l => side l qx qy) ++ [qz, h - qz] := by
  unfold pairsI
  rw [List.map_append, List.map_map]
  rfl
theorem lnAt_left {l : List Ln} {x : Ln} {j : Nat} (h : j < l.length) : lnAt (l ++ [x]) j = lnAt l j := by
  unfold lnAt
  rw [List.getD_eq_getElem?_getD, List.getD_eq_getElem?_getD, List.getElem?_append_left h]
theorem lnAt_last {l : List Ln} {x : Ln} : lnAt (l ++ [x]) l.length = x := by
  unfold lnAt
  rw [List.getD_eq_getElem?_getD, List.getElem?_append_right (Nat.le_refl _), Nat.sub_self]
  rfl
def FirstV (H : Hp) (v : V) : Option (Int × Int) → Prop
  | none => v = .non
  | some f => ∃ t, v = .ref t ∧ H t = some (.tup [.int f.1, .int f.2])
theorem FirstV.same {H H' : Hp} {v : V} {o : Option (Int × Int)} (h : FirstV H v o) (e : Same H H') : FirstV H' v o := by
  cases o with
  | none => exact h
  | some f =>
    obtain ⟨t, a, b⟩ := h
    exact ⟨t, a, e _ _ b⟩
def spStop (K : PySem.W.Frag) : Sp := fun vs H Q _ => ∃ (a : Addr) (ns : List Int) (p q : Addr) (px py pz qx qy qz : Int) (f : Int × Int), vs = [.ref a, .ref p, .ref q] ∧ SqL K H a (ns.map V.int) ∧ faultM ns = none ∧ SqT K H p [.int px, .int py, .int pz] ∧ SqT K H q [.int qx, .int qy, .int qz] ∧
  (Bt 257 px ∧ Bt 257 py ∧ Bt 257 pz) ∧ (Bt 257 qx ∧ Bt 257 qy ∧ Bt 257 qz) ∧ stopI (pairsI (linesM ns) (at_ ns 0) px py pz qx qy qz) = some f ∧ ∀ (H' : Hp) (t : Addr), Same H H' → H' t = some (.tup [.int f.1, .int f.2]) → Q (.ref t) H'
section
variable {P : Program} {w : World} {K : PySem.W.Frag} {mg : Str → Option Value} {base : Heap}
theorem sc_stop : FnScope ["room", "p", "q", "way", "lines", "first", "near", "far", "stop", "line"] ["room", "p", "q"] (defScope sStop) := ⟨rfl, rfl, rfl, by decide +kernel, rfl, by decide +kernel, by decide +kernel⟩
theorem ok_stop (T : Tx mg) (Z : Tz mg) (B : Fb K mg "first_stop" sStop ["room", "p", "q"]) (li : Df P w K mg base 2 "lines_of" ["room"] (spLines K)) (rc : Df P w K mg base 3 "reaches_across" ["one", "other"] (spLn2 K fun l l' => .bl (reach l l')))
    (dp : Df P w K mg base 3 "depths" ["h", "lines", "point"] (spDepths K)) (nr : Df P w K mg base 1 "is_nearer" ["one", "other"] (spNear K)) : Df P w K mg base 4 "first_stop" ["room", "p", "q"] (spStop K) := by
  refine B.df sc_stop (fun vs H Q E h => ?_) (fun f cdv A outer s H vs Q E hr h => ?_)
  · obtain ⟨a, ns, p, q, px, py, pz, qx, qy, qz, f, rfl, _⟩ := h
    rfl
  · obtain ⟨a, ns, p, q, px, py, pz, qx, qy, qz, f, rfl, hS, hf, hp, hq, ⟨bx, by1, bz⟩, ⟨bu, bv, bw⟩, ef, k⟩ := h
    obtain ⟨w1, d1, b1⟩ := faultM_parts hf
    obtain ⟨hl3, h3, h64⟩ := whole_len w1
    have sm := sms_of w1 b1
    have a0 : atI (ns.map V.int) 0 = some (.int (at_ ns 0)) := at_ns (j := 0) rfl (by omega)
    have pb := pairs_bt hf bx by1 bz bu bv bw
    have smw : Sm ⟨px, py, qx, qy⟩ := ⟨bx.le (by decide), by1.le (by decide), bu.le (by decide), bv.le (by decide)⟩
    refine ⟨_, pss_cons (ps_set (i := 3) sc_stop.nd rfl (Or.inr rfl) (pe_tup (pa_cons (pe_ix ix_tup (pv 1) pe_int (fun _ _ => rfl)) (pa_cons (pe_ix ix_tup (pv 1) pe_int (fun _ _ => rfl)) (pa_cons (pe_ix ix_tup (pv 2) pe_int (fun _ _ => rfl)) (pa_cons (pe_ix ix_tup (pv 2) pe_int (fun _ _ => rfl)) pa_nil))))))
      (pss_cons (ps_setLc (i := 4) (own := [("line", 9)]) rfl sc_stop.nd rfl rfl rfl (pi_list (pe_df li (hr.mono (by decide)) rfl (pa_cons (pv 0) pa_nil))) (by change BlkOk ["room", "p", "q", "way", "lines", "first", "near", "far", "stop", "line"] (defScope sStop) _ [("line", 9)]; exact ⟨rfl, by decide +kernel, by decide +kernel, by decide +kernel, by decide +kernel⟩)
        (fun s H C cl fp => pg_name (i := 9) sc_stop.nd rfl (Or.inl rfl)) (fun s H C cl fp => pts_one (pt_val (pe_df rc hr rfl (pa_cons (pv 9) (pa_cons (pv 3) pa_nil))))) (fun s H C cl fp => pv 9))
      (pss_cons (ps_set (i := 5) sc_stop.nd rfl (Or.inl rfl) pe_non)
      (pss_cons (ps_for PassesOwn.never rfl (pi_zip rfl Z.zip (pa_cons (pe_df dp hr rfl (pa_cons (pe_ix ix_list (pv 0) pe_int (fun _ _ => rfl)) (pa_cons (pv 4) (pa_cons (pv 1) pa_nil)))) (pa_cons (pe_df dp hr rfl (pa_cons (pe_ix ix_list (pv 0) pe_int (fun _ _ => rfl)) (pa_cons (pv 4) (pa_cons (pv 2) pa_nil)))) pa_nil)))
          (pg_tup rfl (pgs_cons (pg_name (i := 6) sc_stop.nd rfl (Or.inl rfl)) (pgs_cons (pg_name (i := 7) sc_stop.nd rfl (Or.inl rfl)) pgs_nil)))
        (pss_one (ps_if (PW.pt (pw_and (pt_cmpR op_gt (pv 6) pe_int (nomark _)) (pw_and1 (pt_cmpR op_gt (pv 6) (pv 7) (nomark _)))))
          (pss_cons (ps_set (i := 8) sc_stop.nd rfl (Or.inl rfl) (pe_tup (pa_cons (pv 6) (pa_cons (pe_op op_sub (pv 6) (pv 7)) pa_nil))))
          (pss_one (ps_if (PW.pt (pw_or (pt_cmpR op_isN (pv 5) pe_non (nomark _)) (pw_or1 (pt_val (pe_df nr (hr.mono (by decide)) rfl (pa_cons (pv 8) (pa_cons (pv 5) pa_nil))))))) (pss_one (ps_set (i := 5) sc_stop.nd rfl (Or.inl rfl) (pv 8))) pss_nil))) pss_nil)))
      (pss_one (ps_ret (pv 5)))))), ?_⟩
    refine ⟨_, rfl, p, _, _, _, rfl, rfl, hp, rfl, _, rfl, p, _, _, _, rfl, rfl, hp, rfl, _, rfl, q, _, _, _, rfl, rfl, hq, rfl, _, rfl, q, _, _, _, rfl, rfl, hq, rfl, (by show 4 ≤ sizeLine; decide), fun wy hwy => ?_⟩
    have s1 : Same H (upd H wy (.tup [.int px, .int py, .int qx, .int qy])) := Same.new hwy
    refine ⟨_, rfl, a, ns, rfl, s1.seq hS, w1, fun H2 b s2 hL => ?_⟩
    obtain ⟨ps, hP, hpl, hat⟩ := hL.ex
    have hwy2 : H2 wy = some (.tup [.int px, .int py, .int qx, .int qy]) := s2 _ _ upd_same
    refine ⟨b, rfl, ⟨_, hP⟩, fun D hD => lc_list (K := K) (a := b) (xs := ps.map V.ref) (fun i H' => Same H2 H' ∧ ∃ qs : List Addr, H' D = some (.lst (qs.map V.ref)) ∧ qs.length = (((linesM ns).take i).filter fun l => reach l ⟨px, py, qx, qy⟩).length ∧ ∀ j p, qs[j]? = some p → SqT K H2 p (tupL (lnAt (((linesM ns).take i).filter fun l => reach l ⟨px, py, qx, qy⟩) j))) ⟨Same.new hD, [], upd_same, rfl, fun j p e => by simp at e⟩ (fun i H' _ ⟨sH, _⟩ => sH.seq hP) ?_ ?_⟩
    · rintro i x' H' hx' ⟨sH, qs, hD', hql, hall⟩
      obtain ⟨p', hp', rfl⟩ := ref_at hx'
      have hi : i < (linesM ns).length := by
        have := (List.getElem?_eq_some_iff.mp hp').1
        omega
      refine ⟨rfl, _, rfl, _, rfl, p', lnAt (linesM ns) i, wy, ⟨px, py, qx, qy⟩, rfl, Same.tup sH (hat i p' hp'), SqX.of (sH _ _ hwy2), sm i, smw, _, rfl, ite2 (fun c => ?_) (fun c => ?_)⟩
      · refine ⟨_, rfl, _, hD', (by rw [List.length_map, hql]; exact small1000 (Nat.le_trans (filt_len (by rw [len_lines]; exact h64) i) (by decide))), fun b o e => ?_, qs ++ [p'], ?_, ?_, fun j p e => ?_⟩
        · rw [upd_ne (fun z => (by rw [z, hD] at e; cases e))]
          exact sH b o e
        · rw [upd_same, List.map_append]
          rfl
        · rw [take_snoc (lnAt_get hi), filter_snoc, if_pos c, List.length_append, List.length_append, hql]
          rfl
        · rw [take_snoc (lnAt_get hi), filter_snoc, if_pos c]
          by_cases hj : j < qs.length
          · rw [List.getElem?_append_left hj] at e
            rw [lnAt_left (by omega)]
            exact hall j p e
          · have hj2 : j = qs.length := by
              have := (List.getElem?_eq_some_iff.mp e).1
              rw [List.length_append] at this
              simp at this
              omega
            subst hj2
            rw [List.getElem?_append_right (Nat.le_refl _), Nat.sub_self] at e
            have e' : p' = p := Option.some.inj e
            rw [hql, lnAt_last, ← e']
            exact hat i p' hp'
      · refine ⟨sH, qs, hD', ?_, ?_⟩
        · rw [take_snoc (lnAt_get hi), filter_snoc, if_neg c, List.append_nil]
          exact hql
        · rw [take_snoc (lnAt_get hi), filter_snoc, if_neg c, List.append_nil]
          exact hall
    · rintro H3 ⟨s3, qs, hD3, hql, hall⟩
      rw [List.length_map, hpl, List.take_length] at hql hall
      have s03 := (s1.trans s2).trans s3
      have LF : LnsAt K H3 D ((linesM ns).filter fun l => reach l ⟨px, py, qx, qy⟩) := ⟨qs, SqL.of hD3, hql, fun j p e => Same.tupT s3 (hall j p e)⟩
      have smf := sms_filter sm (fun l => reach l ⟨px, py, qx, qy⟩)
      have l64 : ((linesM ns).filter fun l => reach l ⟨px, py, qx, qy⟩).length ≤ 64 := Nat.le_trans (List.length_filter_le _ _) (by rw [len_lines]; exact h64)
      refine ⟨_, rfl, a, _, _, _, rfl, rfl, s03.seq hS, a0, _, rfl, _, rfl, at_ ns 0, D, _, p, px, py, pz, rfl, LF, smf, l64, Same.tupT s03 hp, bx.le (by decide), by1.le (by decide), fun H4 c1 s4 hc1 => ?_⟩
      have s04 := s03.trans s4
      refine ⟨_, rfl, a, _, _, _, rfl, rfl, s04.seq hS, a0, _, rfl, _, rfl, at_ ns 0, D, _, q, qx, qy, qz, rfl, LF.same s4, smf, l64, Same.tupT s04 hq, bu.le (by decide), bv.le (by decide), fun H5 c2 s5 hc2 => ?_⟩
      have s05 := s04.trans s5
      rw [← pairs_fst (linesM ns) (at_ ns 0) px py pz qx qy qz] at hc1
      rw [← pairs_snd (linesM ns) (at_ ns 0) px py pz qx qy qz] at hc2
      have hc1' := s5 _ _ hc1
      revert ef pb hc1' hc2
      generalize pairsI (linesM ns) (at_ ns 0) px py pz qx qy qz = PR
      intro ef pb hc2 hc1'
      refine ⟨c1, c2, _, _, rfl, SqL.of hc1', SqL.of hc2, for_zip (K := K) (a := c1) (b := c2) (xs := (PR.map (·.1)).map V.int) (ys := (PR.map (·.2)).map V.int)
        (fun i σ H' => ∃ (fv : V) (v6 v7 v8 v9 : Option V), σ = [some (.ref a), some (.ref p), some (.ref q), some (.ref wy), some (.ref D), some fv, v6, v7, v8, v9] ∧ Same H5 H' ∧ FirstV H' fv (stopI (PR.take i)))
        ⟨.non, none, none, none, none, rfl, Same.refl H5, rfl⟩ (fun i σ H' _ ⟨_, _, _, _, _, _, sH, _⟩ => ⟨sH.seq (SqL.of hc1'), sH.seq (SqL.of hc2)⟩) (by rw [List.length_map, List.length_map, List.length_map, List.length_map]) ?_ ?_⟩
      · rintro i x' y' σ H' t hx' hy' ht ⟨fv, v6, v7, v8, v9, rfl, sH, hF⟩
        obtain ⟨n1, hn1, rfl⟩ := int_at hx'
        obtain ⟨n2, hn2, rfl⟩ := int_at hy'
        obtain ⟨pr, hpr, e1, e2⟩ : ∃ pr, PR[i]? = some pr ∧ pr.1 = n1 ∧ pr.2 = n2 := by
          rw [List.getElem?_map] at hn1 hn2
          cases e : PR[i]? with
          | none =>
            rw [e] at hn1
            cases hn1
          | some pr =>
            rw [e] at hn1 hn2
            exact ⟨pr, rfl, Option.some.inj hn1, Option.some.inj hn2⟩
        subst e1 e2
        have hiL : i < PR.length := (List.getElem?_eq_some_iff.mp hpr).1
        have ebt := pb pr (List.mem_of_getElem? hpr)
        have step : stopI (PR.take (i + 1)) = stepI (stopI (PR.take i)) pr := by
          rw [take_snoc hpr]
          unfold stopI
          rw [List.foldl_append]
          rfl
        have s6 : Same H' (upd H' t (.tup [.int pr.1, .int pr.2])) := Same.new ht
        refine ⟨t, _, rfl, SqT.of upd_same, rfl, _, _, rfl, _, _, rfl, rfl, ?_⟩
        refine ⟨_, rfl, _, _, rfl, rfl, _, rfl, ite2 (fun c1 => ?_) (fun c1 => ?_)⟩
        · rw [decide_eq_true_eq] at c1
          refine ⟨_, rfl, _, rfl, _, _, rfl, rfl, _, rfl, ite2 (fun c2 => ?_) (fun c2 => ?_)⟩
          · rw [decide_eq_true_eq] at c2
            have cand : isCand pr := ⟨c1, c2⟩
            refine ⟨_, rfl, _, rfl, _, rfl, _, _, rfl, rfl, (by show 2 ≤ sizeLine; decide), fun u hu => ?_⟩
            have s7 : Same (upd H' t (.tup [.int pr.1, .int pr.2])) (upd (upd H' t (.tup [.int pr.1, .int pr.2])) u (.tup [.int pr.1, .int (pr.1 - pr.2)])) := Same.new hu
            have s67 := s6.trans s7
            cases eo : stopI (PR.take i) with
            | none =>
              rw [eo] at hF step
              have hF : fv = .non := hF
              subst hF
              have es : stopI (PR.take (i + 1)) = some (pr.1, pr.1 - pr.2) := by
                rw [step]
                unfold stepI
                rw [if_pos cand]
              refine ⟨_, rfl, rfl, _, rfl, ite2 (fun _ => ?_) (fun z => absurd (show decide (V.non = V.non) = true by decide) z)⟩
              refine iteT ⟨_, rfl, .ref u, _, _, _, _, rfl, sH.trans s67, ?_⟩
              rw [es]
              exact ⟨u, rfl, upd_same⟩
            | some g =>
              rw [eo] at hF step
              obtain ⟨tg, rfl, hg⟩ := hF
              have gb := stop_bt (fun a ha => pb a (List.mem_of_mem_take ha)) (stop_take PR i (by omega)) eo
              refine ⟨_, rfl, rfl, _, rfl, ite2 (fun z => absurd z (by rw [decide_eq_true_eq]; intro y; cases y)) (fun _ => ?_)⟩
              refine ⟨_, rfl, _, rfl, u, pr.1, pr.1 - pr.2, tg, g.1, g.2, rfl, SqT.of upd_same, SqT.of (s67 _ _ hg), ebt.1.le (by decide), (ebt.1.sub ebt.2).le (by decide), gb.1.le (by decide), gb.2.le (by decide), _, rfl, ite2 (fun c3 => ?_) (fun c3 => ?_)⟩
              · rw [decide_eq_true_eq] at c3
                have es : stopI (PR.take (i + 1)) = some (pr.1, pr.1 - pr.2) := by
                  rw [step]
                  unfold stepI
                  rw [if_pos cand]
                  show (if pr.1 * g.2 < g.1 * (pr.1 - pr.2) then _ else _) = _
                  rw [if_pos c3]
                refine ⟨_, rfl, .ref u, _, _, _, _, rfl, sH.trans s67, ?_⟩
                rw [es]
                exact ⟨u, rfl, upd_same⟩
              · rw [decide_eq_true_eq] at c3
                have es : stopI (PR.take (i + 1)) = some g := by
                  rw [step]
                  unfold stepI
                  rw [if_pos cand]
                  show (if pr.1 * g.2 < g.1 * (pr.1 - pr.2) then _ else _) = _
                  rw [if_neg c3]
                refine ⟨.ref tg, _, _, _, _, rfl, sH.trans s67, ?_⟩
                rw [es]
                exact ⟨tg, rfl, s67 _ _ hg⟩
          · rw [decide_eq_true_eq] at c2
            refine ⟨fv, _, _, _, _, rfl, sH.trans s6, ?_⟩
            rw [step]
            unfold stepI
            rw [if_neg (fun z => c2 z.2)]
            exact hF.same s6
        · rw [decide_eq_true_eq] at c1
          refine iteF ?_
          refine ⟨fv, _, _, _, _, rfl, sH.trans s6, ?_⟩
          rw [step]
          unfold stepI
          rw [if_neg (fun z => c1 z.1)]
          exact hF.same s6
      · rintro σ H' ⟨fv, v6, v7, v8, v9, rfl, sH, hF⟩
        rw [List.length_map, List.length_map, List.take_length, ef] at hF
        obtain ⟨t, rfl, ht⟩ := hF
        exact ⟨_, rfl, k H' t (s05.trans sH) ht⟩
end
end Rm

namespace Rm
open PySem PySem.Spec PyProof.Rows L2
open PySem.W (Codec)
def spMeets (K : PySem.W.Frag) : Sp := fun vs H Q _ => ∃ (a : Addr) (ns : List Int) (px py pz qx qy qz : Int), vs = [.int px, .int py, .int pz, .int qx, .int qy, .int qz, .ref a] ∧ SqL K H a (ns.map V.int) ∧ ns.length ≤ 1000 ∧ (Bt 257 px ∧ Bt 257 py ∧ Bt 257 pz) ∧ (Bt 257 qx ∧ Bt 257 qy ∧ Bt 257 qz) ∧ ∀ (H' : Hp) (p : Addr), H' p = some (.lst ((meetsP px py pz qx qy qz ns).map V.int)) → Q (.ref p) H'
theorem bt_le0 {n : Nat} {a b : Int} (ha : 0 ≤ a) (hab : a ≤ b) (h : Bt n b) : Bt n a := by
  have h2 : b.natAbs < 2 ^ n := intBits_le_iff.mp h
  exact intBits_le_iff.mpr (by omega)
theorem eqv3 (x y z u v w : Int) : PyData.eqv (.tuple ([x, y, z].map PyData.int)) (.tuple ([u, v, w].map PyData.int)) = decide (x = u ∧ y = v ∧ z = w) := by
  simp only [List.map_cons, List.map_nil]
  have b : ∀ i j : Int, (i == j) = decide (i = j) := fun i j => by rw [Bool.eq_iff_iff]; simp
  simp [PyData.eqv, PyData.eqvAll]
  rw [b, b, b]
section
variable {P : Program} {w : World} {K : PySem.W.Frag} {mg : Str → Option Value} {base : Heap}
theorem sc_mt : FnScope ["x", "y", "z", "u", "v", "w", "room", "answer", "p", "q", "place", "walls"] ["x", "y", "z", "u", "v", "w", "room"] (defScope sMeets) := ⟨rfl, rfl, rfl, by decide +kernel, rfl, by decide +kernel, by decide +kernel⟩
theorem fn_mt (T : Tx mg) (Y : Ty mg) {f : Addr} {fd : FuncData} (F : Fun K "meets" "meets" sMeets f fd) (jd : Df P w K mg base 9 "judge" ["room"] (spJudge K)) (pl : Df P w K mg base 7 "place_in_room" ["room", "x", "y", "z"] (spPlace K)) (st : Df P w K mg base 4 "first_stop" ["room", "p", "q"] (spStop K))
    (ow : Df P w K mg base 2 "place_on_way" ["p", "q", "stop"] (spOnWay K)) (wa : Df P w K mg base 6 "walls_at" ["room", "place"] (spWalls K)) : FnOk P w K mg base CX0 10 f fd ["x", "y", "z", "u", "v", "w", "room"] (spMeets K) := by
  obtain ⟨t2, g2⟩ := Y.ins
  refine F.ok sc_mt (fun vs H Q E h => ?_) (fun cdv A outer s H vs Q E hr h => ?_)
  · obtain ⟨a, ns, px, py, pz, qx, qy, qz, rfl, _⟩ := h
    rfl
  · obtain ⟨a, ns, px, py, pz, qx, qy, qz, rfl, hS, h1000, ⟨bx, by1, bz⟩, ⟨bu, bv, bw⟩, k⟩ := h
    refine ⟨_, pss_cons (ps_set (i := 7) sc_mt.nd rfl (Or.inl rfl) (pe_df jd hr rfl (pa_cons (pv 6) pa_nil)))
      (pss_cons (ps_if (pt_cmpR (op_neD hr.units) (pv 7) (pe_lst (pa_cons pe_int pa_nil)) (nomark _)) (pss_one (ps_ret (pv 7))) pss_nil)
      (pss_cons (ps_set (i := 8) sc_mt.nd rfl (Or.inl rfl) (pe_tup (pa_cons (pv 0) (pa_cons (pv 1) (pa_cons (pv 2) pa_nil)))))
      (pss_cons (ps_set (i := 9) sc_mt.nd rfl (Or.inl rfl) (pe_tup (pa_cons (pv 3) (pa_cons (pv 4) (pa_cons (pv 5) pa_nil)))))
      (pss_cons (ps_if (PW.pt (pw_or (pt_cmpR op_ne (pe_df pl (hr.mono (by decide)) rfl (pa_cons (pv 6) (pa_cons (pv 0) (pa_cons (pv 1) (pa_cons (pv 2) pa_nil))))) (pe_glob (v := .int 2) rfl g2 ⟨_, rfl⟩) (nomark _)) (pw_or1 (pt_cmpR (op_eqD hr.units) (pv 8) (pv 9) (nomark _)))))
        (pss_one (ps_ret (pe_lst (pa_cons (pe_un un_neg pe_int) pa_nil)))) pss_nil)
      (pss_cons (ps_set (i := 10) sc_mt.nd rfl (Or.inl rfl) (pe_df ow (hr.mono (by decide)) rfl (pa_cons (pv 8) (pa_cons (pv 9) (pa_cons (pe_df st (hr.mono (by decide)) rfl (pa_cons (pv 6) (pa_cons (pv 8) (pa_cons (pv 9) pa_nil)))) pa_nil)))))
      (pss_cons (ps_set (i := 11) sc_mt.nd rfl (Or.inl rfl) (pe_df wa (hr.mono (by decide)) rfl (pa_cons (pv 6) (pa_cons (pv 10) pa_nil))))
      (pss_cons (ps_if (pt_cmpR op_ne (pe_callB call_lenN rfl T.len PySem.boot_len (pa_cons (pv 11) pa_nil)) pe_int (nomark _)) (pss_one (ps_ret (pe_lst (pa_cons (pe_un un_neg pe_int) pa_nil)))) pss_nil)
      (pss_one (ps_ret (pe_op op_cat (pe_op op_cat (pe_lst (pa_cons pe_int pa_nil)) (pv 11)) (pv 10)))))))))))
      , ?_⟩
    refine ⟨_, rfl, a, ns, rfl, hS, h1000, fun H1 p s1 hp => ?_⟩
    refine ⟨_, rfl, (by show 1 ≤ sizeLine; decide), fun l hl => ?_⟩
    have s2 : Same H1 (upd H1 l (.lst [.int 0])) := Same.new hl
    have dj : Dp K (upd H1 l (.lst [.int 0])) (.ref p) (.list ((judgeM ns).map PyData.int)) := .lst (SqL.of (s2 _ _ hp)) (dp_ints _)
    have dz : Dp K (upd H1 l (.lst [.int 0])) (.ref l) (.list (([0] : List Int).map PyData.int)) := .lst (SqL.of upd_same) (dp_ints [0])
    cases e : faultM ns with
    | some q =>
      have ej : judgeM ns = [-5, (q.1 : Int), (q.2 : Int)] := by unfold judgeM; rw [e]
      rw [ej] at dj hp
      refine ⟨_, _, dj, dz, ?_, by decide, _, rfl, ?_⟩
      · rfl
      · refine ite2 (fun _ => ?_) (fun z => absurd rfl z)
        refine ⟨_, rfl, k _ p ?_⟩
        have es : meetsP px py pz qx qy qz ns = [-5, (q.1 : Int), (q.2 : Int)] := by unfold meetsP; rw [e]
        rw [es]
        exact s2 _ _ hp
    | none =>
      have ej : judgeM ns = [0] := by unfold judgeM; rw [e]
      rw [ej] at dj hp
      refine ⟨_, _, dj, dz, by decide, by decide, _, rfl, ?_⟩
      refine ite2 (fun z => absurd z (by decide)) (fun _ => ?_)
      have s12 := s1.trans s2
      refine ⟨_, rfl, _, rfl, _, rfl, (by show 3 ≤ sizeLine; decide), fun tp htp => ?_⟩
      have s3 : Same (upd H1 l (.lst [.int 0])) (upd (upd H1 l (.lst [.int 0])) tp (.tup [.int px, .int py, .int pz])) := Same.new htp
      refine ⟨_, rfl, _, rfl, _, rfl, (by show 3 ≤ sizeLine; decide), fun tq htq => ?_⟩
      have s4 : Same (upd (upd H1 l (.lst [.int 0])) tp (.tup [.int px, .int py, .int pz])) (upd (upd (upd H1 l (.lst [.int 0])) tp (.tup [.int px, .int py, .int pz])) tq (.tup [.int qx, .int qy, .int qz])) := Same.new htq
      have s14 := (s12.trans s3).trans s4
      have htp4 := s4 _ _ (show (upd (upd H1 l (.lst [.int 0])) tp (.tup [.int px, .int py, .int pz])) tp = some (.tup [.int px, .int py, .int pz]) from upd_same)
      have htq4 : (upd (upd (upd H1 l (.lst [.int 0])) tp (.tup [.int px, .int py, .int pz])) tq (.tup [.int qx, .int qy, .int qz])) tq = some (.tup [.int qx, .int qy, .int qz]) := upd_same
      revert s14 htp4 htq4
      generalize (upd (upd (upd H1 l (.lst [.int 0])) tp (.tup [.int px, .int py, .int pz])) tq (.tup [.int qx, .int qy, .int qz])) = H4
      intro s14 htp4 htq4
      have out : ∀ (H' : Hp) (m : Addr), ¬ (placeI (linesM ns) (at_ ns 0) px py pz = 2 ∧ ¬ (px = qx ∧ py = qy ∧ pz = qz)) → Q (.ref m) (upd H' m (.lst [.int (-3)])) := fun H' m q => by
        refine k _ m ?_
        have es : meetsP px py pz qx qy qz ns = [-3] := by
          unfold meetsP
          rw [e]
          show (if placeI (linesM ns) (at_ ns 0) px py pz = 2 ∧ ¬ (px = qx ∧ py = qy ∧ pz = qz) then _ else _) = _
          rw [if_neg q]
        rw [upd_same, es]
        rfl
      refine ⟨_, rfl, _, rfl, _, rfl, _, rfl, a, ns, px, py, pz, rfl, s14.seq hS, e, bx.le (by decide), by1.le (by decide), fun H5 s5 => ?_⟩
      have s15 := s14.trans s5
      have htp5 := s5 _ _ htp4
      have htq5 := s5 _ _ htq4
      refine ⟨rfl, _, rfl, ite2 (fun c1 => ?_) (fun c1 => ?_)⟩
      · rw [dV, Bool.not_eq_true', decide_eq_false_iff_not] at c1
        exact iteT ⟨_, rfl, (by show 1 ≤ sizeLine; decide), fun m hm => out _ m (fun q => c1 q.1)⟩
      · rw [dV, Bool.not_eq_true', decide_eq_false_iff_not, Decidable.not_not] at c1
        refine ⟨_, rfl, _, rfl, _, _, .tup (SqT.of htp5) (dp_ints [px, py, pz]), .tup (SqT.of htq5) (dp_ints [qx, qy, qz]), rfl, rfl, _, rfl, ite2 (fun c2 => ?_) (fun c2 => ?_)⟩
        · rw [eqv3, decide_eq_true_eq] at c2
          exact ⟨_, rfl, (by show 1 ≤ sizeLine; decide), fun m hm => out _ m (fun q => q.2 c2)⟩
        · rw [eqv3, decide_eq_true_eq] at c2
          have hin := (place_two ns (at_ ns 0) px py pz).mp c1
          obtain ⟨ff, ef, IF⟩ := stop_first e hin c2
          have pb := pairs_bt e bx by1 bz bu bv bw
          have fb := stop_bt pb (stop_of _) ef
          have d0 : 0 < ff.2 := IF.d0
          have eX : ∀ p q : Int, plN p q ff.1 ff.2 = plX p q ff.1 ff.2 := fun p q => by
            show p * ff.2 + (q - p) * ff.1 = p * ff.2 + ff.1 * (q - p)
            rw [Int.mul_comm ff.1]
          obtain ⟨⟨x0, x1⟩, y0, y1⟩ := place_box e hin IF
          have z0 := (first_z e hin IF).1
          rw [← eX] at x0 x1 y0 y1 z0
          have g4 := gcd4_ok (X := plN px qx ff.1 ff.2) (Y := plN py qy ff.1 ff.2) (Z := plN pz qz ff.1 ff.2) d0
          have g0 := g4.g0
          have big : Bt 300 (4095 * ff.2) := ((bt_box (z := 4095) ⟨by decide, by decide⟩).mul fb.2).le (by decide)
          refine ⟨_, rfl, _, rfl, _, rfl, _, rfl, _, rfl, a, ns, tp, tq, px, py, pz, qx, qy, qz, ff, rfl, s15.seq hS, e, SqT.of htp5, SqT.of htq5, ⟨bx, by1, bz⟩, ⟨bu, bv, bw⟩, ef, fun H6 t s6 ht => ?_⟩
          refine ⟨tp, tq, t, px, py, pz, qx, qy, qz, ff.1, ff.2, rfl, SqT.of (s6 _ _ htp5), SqT.of (s6 _ _ htq5), SqT.of ht, ⟨bx.le (by decide), by1.le (by decide), bz.le (by decide)⟩, ⟨bu.le (by decide), bv.le (by decide), bw.le (by decide)⟩, fb.1.le (by decide), fb.2.le (by decide), d0, ⟨x0, y0, z0⟩, fun H7 pb7 s7 hpb => ?_⟩
          have s17 := (s15.trans s6).trans s7
          have eP : placeL px py pz qx qy qz (ff.1, ff.2) = [plN px qx ff.1 ff.2 / gcd4I (plN px qx ff.1 ff.2) (plN py qy ff.1 ff.2) (plN pz qz ff.1 ff.2) ff.2, plN py qy ff.1 ff.2 / gcd4I (plN px qx ff.1 ff.2) (plN py qy ff.1 ff.2) (plN pz qz ff.1 ff.2) ff.2, plN pz qz ff.1 ff.2 / gcd4I (plN px qx ff.1 ff.2) (plN py qy ff.1 ff.2) (plN pz qz ff.1 ff.2) ff.2, ff.2 / gcd4I (plN px qx ff.1 ff.2) (plN py qy ff.1 ff.2) (plN pz qz ff.1 ff.2) ff.2] := rfl
          have es : meetsP px py pz qx qy qz ns = (if (wallsI (linesM ns) (at_ ns 0) (plN px qx ff.1 ff.2 / gcd4I (plN px qx ff.1 ff.2) (plN py qy ff.1 ff.2) (plN pz qz ff.1 ff.2) ff.2) (plN py qy ff.1 ff.2 / gcd4I (plN px qx ff.1 ff.2) (plN py qy ff.1 ff.2) (plN pz qz ff.1 ff.2) ff.2) (plN pz qz ff.1 ff.2 / gcd4I (plN px qx ff.1 ff.2) (plN py qy ff.1 ff.2) (plN pz qz ff.1 ff.2) ff.2) (ff.2 / gcd4I (plN px qx ff.1 ff.2) (plN py qy ff.1 ff.2) (plN pz qz ff.1 ff.2) ff.2)).length = 1 then
              0 :: (wallsI (linesM ns) (at_ ns 0) (plN px qx ff.1 ff.2 / gcd4I (plN px qx ff.1 ff.2) (plN py qy ff.1 ff.2) (plN pz qz ff.1 ff.2) ff.2) (plN py qy ff.1 ff.2 / gcd4I (plN px qx ff.1 ff.2) (plN py qy ff.1 ff.2) (plN pz qz ff.1 ff.2) ff.2) (plN pz qz ff.1 ff.2 / gcd4I (plN px qx ff.1 ff.2) (plN py qy ff.1 ff.2) (plN pz qz ff.1 ff.2) ff.2) (ff.2 / gcd4I (plN px qx ff.1 ff.2) (plN py qy ff.1 ff.2) (plN pz qz ff.1 ff.2) ff.2) ++ [plN px qx ff.1 ff.2 / gcd4I (plN px qx ff.1 ff.2) (plN py qy ff.1 ff.2) (plN pz qz ff.1 ff.2) ff.2, plN py qy ff.1 ff.2 / gcd4I (plN px qx ff.1 ff.2) (plN py qy ff.1 ff.2) (plN pz qz ff.1 ff.2) ff.2, plN pz qz ff.1 ff.2 / gcd4I (plN px qx ff.1 ff.2) (plN py qy ff.1 ff.2) (plN pz qz ff.1 ff.2) ff.2, ff.2 / gcd4I (plN px qx ff.1 ff.2) (plN py qy ff.1 ff.2) (plN pz qz ff.1 ff.2) ff.2]) else [-4]) := by
            unfold meetsP
            rw [e]
            show (if placeI (linesM ns) (at_ ns 0) px py pz = 2 ∧ ¬ (px = qx ∧ py = qy ∧ pz = qz) then _ else _) = _
            rw [if_pos ⟨c1, c2⟩, ef]
            rfl
          have dle : ff.2 / gcd4I (plN px qx ff.1 ff.2) (plN py qy ff.1 ff.2) (plN pz qz ff.1 ff.2) ff.2 ≤ ff.2 := Int.ediv_le_self _ (Int.le_of_lt d0)
          have bd : Bt 280 (ff.2 / gcd4I (plN px qx ff.1 ff.2) (plN py qy ff.1 ff.2) (plN pz qz ff.1 ff.2) ff.2) := bt_le0 (Int.ediv_nonneg (Int.le_of_lt d0) (Int.le_of_lt g0)) dle (fb.2.le (by decide))
          have bX : Bt 300 (plN px qx ff.1 ff.2 / gcd4I (plN px qx ff.1 ff.2) (plN py qy ff.1 ff.2) (plN pz qz ff.1 ff.2) ff.2) := bt_le0 (Int.ediv_nonneg x0 (Int.le_of_lt g0)) (Int.le_trans (Int.ediv_le_self _ x0) x1) big
          have bY : Bt 300 (plN py qy ff.1 ff.2 / gcd4I (plN px qx ff.1 ff.2) (plN py qy ff.1 ff.2) (plN pz qz ff.1 ff.2) ff.2) := bt_le0 (Int.ediv_nonneg y0 (Int.le_of_lt g0)) (Int.le_trans (Int.ediv_le_self _ y0) y1) big
          rw [eP] at hpb
          revert es bd bX bY hpb
          generalize plN px qx ff.1 ff.2 / gcd4I (plN px qx ff.1 ff.2) (plN py qy ff.1 ff.2) (plN pz qz ff.1 ff.2) ff.2 = X
          generalize plN py qy ff.1 ff.2 / gcd4I (plN px qx ff.1 ff.2) (plN py qy ff.1 ff.2) (plN pz qz ff.1 ff.2) ff.2 = Y'
          generalize plN pz qz ff.1 ff.2 / gcd4I (plN px qx ff.1 ff.2) (plN py qy ff.1 ff.2) (plN pz qz ff.1 ff.2) ff.2 = Z'
          generalize ff.2 / gcd4I (plN px qx ff.1 ff.2) (plN py qy ff.1 ff.2) (plN pz qz ff.1 ff.2) ff.2 = D'
          intro hpb es bd bX bY
          refine ⟨_, rfl, _, rfl, a, ns, pb7, X, Y', Z', D', rfl, s17.seq hS, e, SqL.of hpb, bd, bX, bY, fun H8 wb s8 hwb => ?_⟩
          have hpb8 := s8 _ _ hpb
          revert es hwb
          generalize wallsI (linesM ns) (at_ ns 0) X Y' Z' D' = WL
          intro es hwb
          refine ⟨_, rfl, wb, _, WL.length, rfl, SqL.of hwb, by rw [List.length_map], rfl, _, rfl, ite2 (fun c3 => ?_) (fun c3 => ?_)⟩
          · rw [dV, Bool.not_eq_true', decide_eq_false_iff_not] at c3
            rw [if_neg (by omega)] at es
            refine ⟨_, rfl, (by show 1 ≤ sizeLine; decide), fun m hm => k _ m ?_⟩
            rw [upd_same, es]
            rfl
          · rw [dV, Bool.not_eq_true', decide_eq_false_iff_not, Decidable.not_not] at c3
            have l1 : WL.length = 1 := by omega
            rw [if_pos l1] at es
            refine ⟨(by show 1 ≤ sizeLine; decide), fun m hm => ?_⟩
            have s9 : Same H8 (upd H8 m (.lst [.int 0])) := Same.new hm
            refine ⟨_, rfl, m, wb, _, _, rfl, rfl, upd_same, s9 _ _ hwb, ?_, fun m2 hm2 => ?_⟩
            · rw [List.length_map, l1]
              show 1 + 1 ≤ sizeLine
              decide
            · have s10 : Same (upd H8 m (.lst [.int 0])) (upd (upd H8 m (.lst [.int 0])) m2 (.lst ([.int 0] ++ WL.map V.int))) := Same.new hm2
              refine ⟨_, rfl, m2, pb7, _, _, rfl, rfl, upd_same, s10 _ _ (s9 _ _ hpb8), ?_, fun m3 hm3 => k _ m3 ?_⟩
              · rw [List.length_append, List.length_map, List.length_map, l1]
                show 1 + 1 + 4 ≤ sizeLine
                decide
              · rw [upd_same, es]
                show some (HO.lst (.int 0 :: (WL.map V.int ++ [X, Y', Z', D'].map V.int))) = some (HO.lst (.int 0 :: (WL ++ [X, Y', Z', D']).map V.int))
                rw [List.map_append]
end
end Rm

namespace Rm
open PySem PySem.Spec PyProof.Rows L2
open PySem.W (Codec)
set_option maxHeartbeats 2000000 in
theorem all_mk {P : Program} {w : World} {K : PySem.W.Frag} {h : Heap} {mg : Str → Option Value} {fa : Addr} {t_fewest : Tok} {t_most : Tok} {t_far : Tok} {t_stuff : Tok} {t_out : Tok} {t_surf : Tok} {t_ins : Tok} {f_sJudge : Addr} {od_sJudge an_sJudge : Option Addr} {sl_sJudge : Array (Option Value)} {oc_sJudge kV_sJudge dc_sJudge pm_sJudge cd_sJudge ct_sJudge : Value} {f_sMeets : Addr} {od_sMeets an_sMeets : Option Addr} {sl_sMeets : Array (Option Value)} {oc_sMeets kV_sMeets dc_sMeets pm_sMeets cd_sMeets ct_sMeets : Value} {f_sFf : Addr} {od_sFf an_sFf : Option Addr} {sl_sFf : Array (Option Value)} {oc_sFf kV_sFf dc_sFf pm_sFf cd_sFf ct_sFf : Value} {f_sFl : Addr} {od_sFl an_sFl : Option Addr} {sl_sFl : Array (Option Value)} {oc_sFl kV_sFl dc_sFl pm_sFl cd_sFl ct_sFl : Value} {f_sCount : Addr} {od_sCount an_sCount : Option Addr} {sl_sCount : Array (Option Value)} {oc_sCount kV_sCount dc_sCount pm_sCount cd_sCount ct_sCount : Value} {f_sWhole : Addr} {od_sWhole an_sWhole : Option Addr} {sl_sWhole : Array (Option Value)} {oc_sWhole kV_sWhole dc_sWhole pm_sWhole cd_sWhole ct_sWhole : Value} {f_sHead : Addr} {od_sHead an_sHead : Option Addr} {sl_sHead : Array (Option Value)} {oc_sHead kV_sHead dc_sHead pm_sHead cd_sHead ct_sHead : Value} {f_sStuff : Addr} {od_sStuff an_sStuff : Option Addr} {sl_sStuff : Array (Option Value)} {oc_sStuff kV_sStuff dc_sStuff pm_sStuff cd_sStuff ct_sStuff : Value} {f_sCoord : Addr} {od_sCoord an_sCoord : Option Addr} {sl_sCoord : Array (Option Value)} {oc_sCoord kV_sCoord dc_sCoord pm_sCoord cd_sCoord ct_sCoord : Value} {f_sBad : Addr} {od_sBad an_sBad : Option Addr} {sl_sBad : Array (Option Value)} {oc_sBad kV_sBad dc_sBad pm_sBad cd_sBad ct_sBad : Value} {f_sLines : Addr} {od_sLines an_sLines : Option Addr} {sl_sLines : Array (Option Value)} {oc_sLines kV_sLines dc_sLines pm_sLines cd_sLines ct_sLines : Value} {f_sRx : Addr} {od_sRx an_sRx : Option Addr} {sl_sRx : Array (Option Value)} {oc_sRx kV_sRx dc_sRx pm_sRx cd_sRx ct_sRx : Value} {f_sRy : Addr} {od_sRy an_sRy : Option Addr} {sl_sRy : Array (Option Value)} {oc_sRy kV_sRy dc_sRy pm_sRy cd_sRy ct_sRy : Value} {f_sStraight : Addr} {od_sStraight an_sStraight : Option Addr} {sl_sStraight : Array (Option Value)} {oc_sStraight kV_sStraight dc_sStraight pm_sStraight cd_sStraight ct_sStraight : Value} {f_sDir : Addr} {od_sDir an_sDir : Option Addr} {sl_sDir : Array (Option Value)} {oc_sDir kV_sDir dc_sDir pm_sDir cd_sDir ct_sDir : Value} {f_sWrong : Addr} {od_sWrong an_sWrong : Option Addr} {sl_sWrong : Array (Option Value)} {oc_sWrong kV_sWrong dc_sWrong pm_sWrong cd_sWrong ct_sWrong : Value} {f_sPar : Addr} {od_sPar an_sPar : Option Addr} {sl_sPar : Array (Option Value)} {oc_sPar kV_sPar dc_sPar pm_sPar cd_sPar ct_sPar : Value} {f_sGoing : Addr} {od_sGoing an_sGoing : Option Addr} {sl_sGoing : Array (Option Value)} {oc_sGoing kV_sGoing dc_sGoing pm_sGoing cd_sGoing ct_sGoing : Value} {f_sLmet : Addr} {od_sLmet an_sLmet : Option Addr} {sl_sLmet : Array (Option Value)} {oc_sLmet kV_sLmet dc_sLmet pm_sLmet cd_sLmet ct_sLmet : Value} {f_sMet : Addr} {od_sMet an_sMet : Option Addr} {sl_sMet : Array (Option Value)} {oc_sMet kV_sMet dc_sMet pm_sMet cd_sMet ct_sMet : Value} {f_sCommon : Addr} {od_sCommon an_sCommon : Option Addr} {sl_sCommon : Array (Option Value)} {oc_sCommon kV_sCommon dc_sCommon pm_sCommon cd_sCommon ct_sCommon : Value} {f_sOver : Addr} {od_sOver an_sOver : Option Addr} {sl_sOver : Array (Option Value)} {oc_sOver kV_sOver dc_sOver pm_sOver cd_sOver ct_sOver : Value} {f_sReach : Addr} {od_sReach an_sReach : Option Addr} {sl_sReach : Array (Option Value)} {oc_sReach kV_sReach dc_sReach pm_sReach cd_sReach ct_sReach : Value} {f_sSide : Addr} {od_sSide an_sSide : Option Addr} {sl_sSide : Array (Option Value)} {oc_sSide kV_sSide dc_sSide pm_sSide cd_sSide ct_sSide : Value} {f_sArea : Addr} {od_sArea an_sArea : Option Addr} {sl_sArea : Array (Option Value)} {oc_sArea kV_sArea dc_sArea pm_sArea cd_sArea ct_sArea : Value} {f_sPlace : Addr} {od_sPlace an_sPlace : Option Addr} {sl_sPlace : Array (Option Value)} {oc_sPlace kV_sPlace dc_sPlace pm_sPlace cd_sPlace ct_sPlace : Value} {f_sHeight : Addr} {od_sHeight an_sHeight : Option Addr} {sl_sHeight : Array (Option Value)} {oc_sHeight kV_sHeight dc_sHeight pm_sHeight cd_sHeight ct_sHeight : Value} {f_sPlan : Addr} {od_sPlan an_sPlan : Option Addr} {sl_sPlan : Array (Option Value)} {oc_sPlan kV_sPlan dc_sPlan pm_sPlan cd_sPlan ct_sPlan : Value} {f_sTouch : Addr} {od_sTouch an_sTouch : Option Addr} {sl_sTouch : Array (Option Value)} {oc_sTouch kV_sTouch dc_sTouch pm_sTouch cd_sTouch ct_sTouch : Value} {f_sPass : Addr} {od_sPass an_sPass : Option Addr} {sl_sPass : Array (Option Value)} {oc_sPass kV_sPass dc_sPass pm_sPass cd_sPass ct_sPass : Value} {f_sStop : Addr} {od_sStop an_sStop : Option Addr} {sl_sStop : Array (Option Value)} {oc_sStop kV_sStop dc_sStop pm_sStop cd_sStop ct_sStop : Value} {f_sDepths : Addr} {od_sDepths an_sDepths : Option Addr} {sl_sDepths : Array (Option Value)} {oc_sDepths kV_sDepths dc_sDepths pm_sDepths cd_sDepths ct_sDepths : Value} {f_sNear : Addr} {od_sNear an_sNear : Option Addr} {sl_sNear : Array (Option Value)} {oc_sNear kV_sNear dc_sNear pm_sNear cd_sNear ct_sNear : Value} {f_sOnWay : Addr} {od_sOnWay an_sOnWay : Option Addr} {sl_sOnWay : Array (Option Value)} {oc_sOnWay kV_sOnWay dc_sOnWay pm_sOnWay cd_sOnWay ct_sOnWay : Value} {f_sGcd : Addr} {od_sGcd an_sGcd : Option Addr} {sl_sGcd : Array (Option Value)} {oc_sGcd kV_sGcd dc_sGcd pm_sGcd cd_sGcd ct_sGcd : Value} {f_sWalls : Addr} {od_sWalls an_sWalls : Option Addr} {sl_sWalls : Array (Option Value)} {oc_sWalls kV_sWalls dc_sWalls pm_sWalls cd_sWalls ct_sWalls : Value} {f_sOnLn : Addr} {od_sOnLn an_sOnLn : Option Addr} {sl_sOnLn : Array (Option Value)} {oc_sOnLn kV_sOnLn dc_sOnLn pm_sOnLn cd_sOnLn ct_sOnLn : Value} (X : K.In h) (G : h.Ns mainGlobals mg) (hfa : mg "meets" = some (.ref fa))
    (n_len : PySem.W.nsIn K mainGlobals "len" = some none)
    (n_range : PySem.W.nsIn K mainGlobals "range" = some none)
    (n_abs : PySem.W.nsIn K mainGlobals "abs" = some none)
    (n_min : PySem.W.nsIn K mainGlobals "min" = some none)
    (n_max : PySem.W.nsIn K mainGlobals "max" = some none)
    (n_sum : PySem.W.nsIn K mainGlobals "sum" = some none)
    (n_enum : PySem.W.nsIn K mainGlobals "enumerate" = some none)
    (n_zip : PySem.W.nsIn K mainGlobals "zip" = some none)
    (n_fewest : PySem.W.nsIn K mainGlobals "FEWEST_CORNERS" = some (some (.int 3 t_fewest)))
    (n_most : PySem.W.nsIn K mainGlobals "MOST_CORNERS" = some (some (.int 64 t_most)))
    (n_far : PySem.W.nsIn K mainGlobals "LARGEST_LENGTH" = some (some (.int 4095 t_far)))
    (n_stuff : PySem.W.nsIn K mainGlobals "LARGEST_STUFF" = some (some (.int 7 t_stuff)))
    (n_out : PySem.W.nsIn K mainGlobals "OUTSIDE" = some (some (.int 0 t_out)))
    (n_surf : PySem.W.nsIn K mainGlobals "ON_SURFACE" = some (some (.int 1 t_surf)))
    (n_ins : PySem.W.nsIn K mainGlobals "INSIDE" = some (some (.int 2 t_ins)))
    (a_sJudge : PySem.W.nsIn K mainGlobals "judge" = some (some (.ref f_sJudge))) (l_sJudge : K.lookup f_sJudge = some ⟨oc_sJudge, od_sJudge, .func (PySem.W.fnOf "judge" "judge" (defArgs sJudge) (defBody sJudge) (defScope sJudge) .none kV_sJudge dc_sJudge pm_sJudge an_sJudge cd_sJudge ct_sJudge), sl_sJudge⟩) (c_sJudge : PySem.W.codeIn K cd_sJudge "judge" = true) (k_sJudge : PySem.W.keepIn K (.ref f_sJudge) = true)
    (a_sMeets : PySem.W.nsIn K mainGlobals "meets" = some (some (.ref f_sMeets))) (l_sMeets : K.lookup f_sMeets = some ⟨oc_sMeets, od_sMeets, .func (PySem.W.fnOf "meets" "meets" (defArgs sMeets) (defBody sMeets) (defScope sMeets) .none kV_sMeets dc_sMeets pm_sMeets an_sMeets cd_sMeets ct_sMeets), sl_sMeets⟩) (c_sMeets : PySem.W.codeIn K cd_sMeets "meets" = true) (k_sMeets : PySem.W.keepIn K (.ref f_sMeets) = true)
    (a_sFf : PySem.W.nsIn K mainGlobals "find_fault" = some (some (.ref f_sFf))) (l_sFf : K.lookup f_sFf = some ⟨oc_sFf, od_sFf, .func (PySem.W.fnOf "find_fault" "find_fault" (defArgs sFf) (defBody sFf) (defScope sFf) .none kV_sFf dc_sFf pm_sFf an_sFf cd_sFf ct_sFf), sl_sFf⟩) (c_sFf : PySem.W.codeIn K cd_sFf "find_fault" = true) (k_sFf : PySem.W.keepIn K (.ref f_sFf) = true)
    (a_sFl : PySem.W.nsIn K mainGlobals "find_fault_of_lines" = some (some (.ref f_sFl))) (l_sFl : K.lookup f_sFl = some ⟨oc_sFl, od_sFl, .func (PySem.W.fnOf "find_fault_of_lines" "find_fault_of_lines" (defArgs sFl) (defBody sFl) (defScope sFl) .none kV_sFl dc_sFl pm_sFl an_sFl cd_sFl ct_sFl), sl_sFl⟩) (c_sFl : PySem.W.codeIn K cd_sFl "find_fault_of_lines" = true) (k_sFl : PySem.W.keepIn K (.ref f_sFl) = true)
    (a_sCount : PySem.W.nsIn K mainGlobals "count_corners" = some (some (.ref f_sCount))) (l_sCount : K.lookup f_sCount = some ⟨oc_sCount, od_sCount, .func (PySem.W.fnOf "count_corners" "count_corners" (defArgs sCount) (defBody sCount) (defScope sCount) .none kV_sCount dc_sCount pm_sCount an_sCount cd_sCount ct_sCount), sl_sCount⟩) (c_sCount : PySem.W.codeIn K cd_sCount "count_corners" = true) (k_sCount : PySem.W.keepIn K (.ref f_sCount) = true)
    (a_sWhole : PySem.W.nsIn K mainGlobals "has_whole_corners" = some (some (.ref f_sWhole))) (l_sWhole : K.lookup f_sWhole = some ⟨oc_sWhole, od_sWhole, .func (PySem.W.fnOf "has_whole_corners" "has_whole_corners" (defArgs sWhole) (defBody sWhole) (defScope sWhole) .none kV_sWhole dc_sWhole pm_sWhole an_sWhole cd_sWhole ct_sWhole), sl_sWhole⟩) (c_sWhole : PySem.W.codeIn K cd_sWhole "has_whole_corners" = true) (k_sWhole : PySem.W.keepIn K (.ref f_sWhole) = true)
    (a_sHead : PySem.W.nsIn K mainGlobals "has_sound_head" = some (some (.ref f_sHead))) (l_sHead : K.lookup f_sHead = some ⟨oc_sHead, od_sHead, .func (PySem.W.fnOf "has_sound_head" "has_sound_head" (defArgs sHead) (defBody sHead) (defScope sHead) .none kV_sHead dc_sHead pm_sHead an_sHead cd_sHead ct_sHead), sl_sHead⟩) (c_sHead : PySem.W.codeIn K cd_sHead "has_sound_head" = true) (k_sHead : PySem.W.keepIn K (.ref f_sHead) = true)
    (a_sStuff : PySem.W.nsIn K mainGlobals "is_stuff" = some (some (.ref f_sStuff))) (l_sStuff : K.lookup f_sStuff = some ⟨oc_sStuff, od_sStuff, .func (PySem.W.fnOf "is_stuff" "is_stuff" (defArgs sStuff) (defBody sStuff) (defScope sStuff) .none kV_sStuff dc_sStuff pm_sStuff an_sStuff cd_sStuff ct_sStuff), sl_sStuff⟩) (c_sStuff : PySem.W.codeIn K cd_sStuff "is_stuff" = true) (k_sStuff : PySem.W.keepIn K (.ref f_sStuff) = true)
    (a_sCoord : PySem.W.nsIn K mainGlobals "is_coordinate" = some (some (.ref f_sCoord))) (l_sCoord : K.lookup f_sCoord = some ⟨oc_sCoord, od_sCoord, .func (PySem.W.fnOf "is_coordinate" "is_coordinate" (defArgs sCoord) (defBody sCoord) (defScope sCoord) .none kV_sCoord dc_sCoord pm_sCoord an_sCoord cd_sCoord ct_sCoord), sl_sCoord⟩) (c_sCoord : PySem.W.codeIn K cd_sCoord "is_coordinate" = true) (k_sCoord : PySem.W.keepIn K (.ref f_sCoord) = true)
    (a_sBad : PySem.W.nsIn K mainGlobals "first_wrong_corner" = some (some (.ref f_sBad))) (l_sBad : K.lookup f_sBad = some ⟨oc_sBad, od_sBad, .func (PySem.W.fnOf "first_wrong_corner" "first_wrong_corner" (defArgs sBad) (defBody sBad) (defScope sBad) .none kV_sBad dc_sBad pm_sBad an_sBad cd_sBad ct_sBad), sl_sBad⟩) (c_sBad : PySem.W.codeIn K cd_sBad "first_wrong_corner" = true) (k_sBad : PySem.W.keepIn K (.ref f_sBad) = true)
    (a_sLines : PySem.W.nsIn K mainGlobals "lines_of" = some (some (.ref f_sLines))) (l_sLines : K.lookup f_sLines = some ⟨oc_sLines, od_sLines, .func (PySem.W.fnOf "lines_of" "lines_of" (defArgs sLines) (defBody sLines) (defScope sLines) .none kV_sLines dc_sLines pm_sLines an_sLines cd_sLines ct_sLines), sl_sLines⟩) (c_sLines : PySem.W.codeIn K cd_sLines "lines_of" = true) (k_sLines : PySem.W.keepIn K (.ref f_sLines) = true)
    (a_sRx : PySem.W.nsIn K mainGlobals "run_along_x" = some (some (.ref f_sRx))) (l_sRx : K.lookup f_sRx = some ⟨oc_sRx, od_sRx, .func (PySem.W.fnOf "run_along_x" "run_along_x" (defArgs sRx) (defBody sRx) (defScope sRx) .none kV_sRx dc_sRx pm_sRx an_sRx cd_sRx ct_sRx), sl_sRx⟩) (c_sRx : PySem.W.codeIn K cd_sRx "run_along_x" = true) (k_sRx : PySem.W.keepIn K (.ref f_sRx) = true)
    (a_sRy : PySem.W.nsIn K mainGlobals "run_along_y" = some (some (.ref f_sRy))) (l_sRy : K.lookup f_sRy = some ⟨oc_sRy, od_sRy, .func (PySem.W.fnOf "run_along_y" "run_along_y" (defArgs sRy) (defBody sRy) (defScope sRy) .none kV_sRy dc_sRy pm_sRy an_sRy cd_sRy ct_sRy), sl_sRy⟩) (c_sRy : PySem.W.codeIn K cd_sRy "run_along_y" = true) (k_sRy : PySem.W.keepIn K (.ref f_sRy) = true)
    (a_sStraight : PySem.W.nsIn K mainGlobals "is_straight" = some (some (.ref f_sStraight))) (l_sStraight : K.lookup f_sStraight = some ⟨oc_sStraight, od_sStraight, .func (PySem.W.fnOf "is_straight" "is_straight" (defArgs sStraight) (defBody sStraight) (defScope sStraight) .none kV_sStraight dc_sStraight pm_sStraight an_sStraight cd_sStraight ct_sStraight), sl_sStraight⟩) (c_sStraight : PySem.W.codeIn K cd_sStraight "is_straight" = true) (k_sStraight : PySem.W.keepIn K (.ref f_sStraight) = true)
    (a_sDir : PySem.W.nsIn K mainGlobals "has_direction" = some (some (.ref f_sDir))) (l_sDir : K.lookup f_sDir = some ⟨oc_sDir, od_sDir, .func (PySem.W.fnOf "has_direction" "has_direction" (defArgs sDir) (defBody sDir) (defScope sDir) .none kV_sDir dc_sDir pm_sDir an_sDir cd_sDir ct_sDir), sl_sDir⟩) (c_sDir : PySem.W.codeIn K cd_sDir "has_direction" = true) (k_sDir : PySem.W.keepIn K (.ref f_sDir) = true)
    (a_sWrong : PySem.W.nsIn K mainGlobals "first_wrong_line" = some (some (.ref f_sWrong))) (l_sWrong : K.lookup f_sWrong = some ⟨oc_sWrong, od_sWrong, .func (PySem.W.fnOf "first_wrong_line" "first_wrong_line" (defArgs sWrong) (defBody sWrong) (defScope sWrong) .none kV_sWrong dc_sWrong pm_sWrong an_sWrong cd_sWrong ct_sWrong), sl_sWrong⟩) (c_sWrong : PySem.W.codeIn K cd_sWrong "first_wrong_line" = true) (k_sWrong : PySem.W.keepIn K (.ref f_sWrong) = true)
    (a_sPar : PySem.W.nsIn K mainGlobals "are_parallel" = some (some (.ref f_sPar))) (l_sPar : K.lookup f_sPar = some ⟨oc_sPar, od_sPar, .func (PySem.W.fnOf "are_parallel" "are_parallel" (defArgs sPar) (defBody sPar) (defScope sPar) .none kV_sPar dc_sPar pm_sPar an_sPar cd_sPar ct_sPar), sl_sPar⟩) (c_sPar : PySem.W.codeIn K cd_sPar "are_parallel" = true) (k_sPar : PySem.W.keepIn K (.ref f_sPar) = true)
    (a_sGoing : PySem.W.nsIn K mainGlobals "first_line_going_on" = some (some (.ref f_sGoing))) (l_sGoing : K.lookup f_sGoing = some ⟨oc_sGoing, od_sGoing, .func (PySem.W.fnOf "first_line_going_on" "first_line_going_on" (defArgs sGoing) (defBody sGoing) (defScope sGoing) .none kV_sGoing dc_sGoing pm_sGoing an_sGoing cd_sGoing ct_sGoing), sl_sGoing⟩) (c_sGoing : PySem.W.codeIn K cd_sGoing "first_line_going_on" = true) (k_sGoing : PySem.W.keepIn K (.ref f_sGoing) = true)
    (a_sLmet : PySem.W.nsIn K mainGlobals "first_line_met" = some (some (.ref f_sLmet))) (l_sLmet : K.lookup f_sLmet = some ⟨oc_sLmet, od_sLmet, .func (PySem.W.fnOf "first_line_met" "first_line_met" (defArgs sLmet) (defBody sLmet) (defScope sLmet) .none kV_sLmet dc_sLmet pm_sLmet an_sLmet cd_sLmet ct_sLmet), sl_sLmet⟩) (c_sLmet : PySem.W.codeIn K cd_sLmet "first_line_met" = true) (k_sLmet : PySem.W.keepIn K (.ref f_sLmet) = true)
    (a_sMet : PySem.W.nsIn K mainGlobals "is_met" = some (some (.ref f_sMet))) (l_sMet : K.lookup f_sMet = some ⟨oc_sMet, od_sMet, .func (PySem.W.fnOf "is_met" "is_met" (defArgs sMet) (defBody sMet) (defScope sMet) .none kV_sMet dc_sMet pm_sMet an_sMet cd_sMet ct_sMet), sl_sMet⟩) (c_sMet : PySem.W.codeIn K cd_sMet "is_met" = true) (k_sMet : PySem.W.keepIn K (.ref f_sMet) = true)
    (a_sCommon : PySem.W.nsIn K mainGlobals "have_common_point" = some (some (.ref f_sCommon))) (l_sCommon : K.lookup f_sCommon = some ⟨oc_sCommon, od_sCommon, .func (PySem.W.fnOf "have_common_point" "have_common_point" (defArgs sCommon) (defBody sCommon) (defScope sCommon) .none kV_sCommon dc_sCommon pm_sCommon an_sCommon cd_sCommon ct_sCommon), sl_sCommon⟩) (c_sCommon : PySem.W.codeIn K cd_sCommon "have_common_point" = true) (k_sCommon : PySem.W.keepIn K (.ref f_sCommon) = true)
    (a_sOver : PySem.W.nsIn K mainGlobals "spans_overlap" = some (some (.ref f_sOver))) (l_sOver : K.lookup f_sOver = some ⟨oc_sOver, od_sOver, .func (PySem.W.fnOf "spans_overlap" "spans_overlap" (defArgs sOver) (defBody sOver) (defScope sOver) .none kV_sOver dc_sOver pm_sOver an_sOver cd_sOver ct_sOver), sl_sOver⟩) (c_sOver : PySem.W.codeIn K cd_sOver "spans_overlap" = true) (k_sOver : PySem.W.keepIn K (.ref f_sOver) = true)
    (a_sReach : PySem.W.nsIn K mainGlobals "reaches_across" = some (some (.ref f_sReach))) (l_sReach : K.lookup f_sReach = some ⟨oc_sReach, od_sReach, .func (PySem.W.fnOf "reaches_across" "reaches_across" (defArgs sReach) (defBody sReach) (defScope sReach) .none kV_sReach dc_sReach pm_sReach an_sReach cd_sReach ct_sReach), sl_sReach⟩) (c_sReach : PySem.W.codeIn K cd_sReach "reaches_across" = true) (k_sReach : PySem.W.keepIn K (.ref f_sReach) = true)
    (a_sSide : PySem.W.nsIn K mainGlobals "side_of" = some (some (.ref f_sSide))) (l_sSide : K.lookup f_sSide = some ⟨oc_sSide, od_sSide, .func (PySem.W.fnOf "side_of" "side_of" (defArgs sSide) (defBody sSide) (defScope sSide) .none kV_sSide dc_sSide pm_sSide an_sSide cd_sSide ct_sSide), sl_sSide⟩) (c_sSide : PySem.W.codeIn K cd_sSide "side_of" = true) (k_sSide : PySem.W.keepIn K (.ref f_sSide) = true)
    (a_sArea : PySem.W.nsIn K mainGlobals "twice_area" = some (some (.ref f_sArea))) (l_sArea : K.lookup f_sArea = some ⟨oc_sArea, od_sArea, .func (PySem.W.fnOf "twice_area" "twice_area" (defArgs sArea) (defBody sArea) (defScope sArea) .none kV_sArea dc_sArea pm_sArea an_sArea cd_sArea ct_sArea), sl_sArea⟩) (c_sArea : PySem.W.codeIn K cd_sArea "twice_area" = true) (k_sArea : PySem.W.keepIn K (.ref f_sArea) = true)
    (a_sPlace : PySem.W.nsIn K mainGlobals "place_in_room" = some (some (.ref f_sPlace))) (l_sPlace : K.lookup f_sPlace = some ⟨oc_sPlace, od_sPlace, .func (PySem.W.fnOf "place_in_room" "place_in_room" (defArgs sPlace) (defBody sPlace) (defScope sPlace) .none kV_sPlace dc_sPlace pm_sPlace an_sPlace cd_sPlace ct_sPlace), sl_sPlace⟩) (c_sPlace : PySem.W.codeIn K cd_sPlace "place_in_room" = true) (k_sPlace : PySem.W.keepIn K (.ref f_sPlace) = true)
    (a_sHeight : PySem.W.nsIn K mainGlobals "place_in_height" = some (some (.ref f_sHeight))) (l_sHeight : K.lookup f_sHeight = some ⟨oc_sHeight, od_sHeight, .func (PySem.W.fnOf "place_in_height" "place_in_height" (defArgs sHeight) (defBody sHeight) (defScope sHeight) .none kV_sHeight dc_sHeight pm_sHeight an_sHeight cd_sHeight ct_sHeight), sl_sHeight⟩) (c_sHeight : PySem.W.codeIn K cd_sHeight "place_in_height" = true) (k_sHeight : PySem.W.keepIn K (.ref f_sHeight) = true)
    (a_sPlan : PySem.W.nsIn K mainGlobals "place_in_plan" = some (some (.ref f_sPlan))) (l_sPlan : K.lookup f_sPlan = some ⟨oc_sPlan, od_sPlan, .func (PySem.W.fnOf "place_in_plan" "place_in_plan" (defArgs sPlan) (defBody sPlan) (defScope sPlan) .none kV_sPlan dc_sPlan pm_sPlan an_sPlan cd_sPlan ct_sPlan), sl_sPlan⟩) (c_sPlan : PySem.W.codeIn K cd_sPlan "place_in_plan" = true) (k_sPlan : PySem.W.keepIn K (.ref f_sPlan) = true)
    (a_sTouch : PySem.W.nsIn K mainGlobals "is_touched" = some (some (.ref f_sTouch))) (l_sTouch : K.lookup f_sTouch = some ⟨oc_sTouch, od_sTouch, .func (PySem.W.fnOf "is_touched" "is_touched" (defArgs sTouch) (defBody sTouch) (defScope sTouch) .none kV_sTouch dc_sTouch pm_sTouch an_sTouch cd_sTouch ct_sTouch), sl_sTouch⟩) (c_sTouch : PySem.W.codeIn K cd_sTouch "is_touched" = true) (k_sTouch : PySem.W.keepIn K (.ref f_sTouch) = true)
    (a_sPass : PySem.W.nsIn K mainGlobals "is_passed" = some (some (.ref f_sPass))) (l_sPass : K.lookup f_sPass = some ⟨oc_sPass, od_sPass, .func (PySem.W.fnOf "is_passed" "is_passed" (defArgs sPass) (defBody sPass) (defScope sPass) .none kV_sPass dc_sPass pm_sPass an_sPass cd_sPass ct_sPass), sl_sPass⟩) (c_sPass : PySem.W.codeIn K cd_sPass "is_passed" = true) (k_sPass : PySem.W.keepIn K (.ref f_sPass) = true)
    (a_sStop : PySem.W.nsIn K mainGlobals "first_stop" = some (some (.ref f_sStop))) (l_sStop : K.lookup f_sStop = some ⟨oc_sStop, od_sStop, .func (PySem.W.fnOf "first_stop" "first_stop" (defArgs sStop) (defBody sStop) (defScope sStop) .none kV_sStop dc_sStop pm_sStop an_sStop cd_sStop ct_sStop), sl_sStop⟩) (c_sStop : PySem.W.codeIn K cd_sStop "first_stop" = true) (k_sStop : PySem.W.keepIn K (.ref f_sStop) = true)
    (a_sDepths : PySem.W.nsIn K mainGlobals "depths" = some (some (.ref f_sDepths))) (l_sDepths : K.lookup f_sDepths = some ⟨oc_sDepths, od_sDepths, .func (PySem.W.fnOf "depths" "depths" (defArgs sDepths) (defBody sDepths) (defScope sDepths) .none kV_sDepths dc_sDepths pm_sDepths an_sDepths cd_sDepths ct_sDepths), sl_sDepths⟩) (c_sDepths : PySem.W.codeIn K cd_sDepths "depths" = true) (k_sDepths : PySem.W.keepIn K (.ref f_sDepths) = true)
    (a_sNear : PySem.W.nsIn K mainGlobals "is_nearer" = some (some (.ref f_sNear))) (l_sNear : K.lookup f_sNear = some ⟨oc_sNear, od_sNear, .func (PySem.W.fnOf "is_nearer" "is_nearer" (defArgs sNear) (defBody sNear) (defScope sNear) .none kV_sNear dc_sNear pm_sNear an_sNear cd_sNear ct_sNear), sl_sNear⟩) (c_sNear : PySem.W.codeIn K cd_sNear "is_nearer" = true) (k_sNear : PySem.W.keepIn K (.ref f_sNear) = true)
    (a_sOnWay : PySem.W.nsIn K mainGlobals "place_on_way" = some (some (.ref f_sOnWay))) (l_sOnWay : K.lookup f_sOnWay = some ⟨oc_sOnWay, od_sOnWay, .func (PySem.W.fnOf "place_on_way" "place_on_way" (defArgs sOnWay) (defBody sOnWay) (defScope sOnWay) .none kV_sOnWay dc_sOnWay pm_sOnWay an_sOnWay cd_sOnWay ct_sOnWay), sl_sOnWay⟩) (c_sOnWay : PySem.W.codeIn K cd_sOnWay "place_on_way" = true) (k_sOnWay : PySem.W.keepIn K (.ref f_sOnWay) = true)
    (a_sGcd : PySem.W.nsIn K mainGlobals "common_divisor" = some (some (.ref f_sGcd))) (l_sGcd : K.lookup f_sGcd = some ⟨oc_sGcd, od_sGcd, .func (PySem.W.fnOf "common_divisor" "common_divisor" (defArgs sGcd) (defBody sGcd) (defScope sGcd) .none kV_sGcd dc_sGcd pm_sGcd an_sGcd cd_sGcd ct_sGcd), sl_sGcd⟩) (c_sGcd : PySem.W.codeIn K cd_sGcd "common_divisor" = true) (k_sGcd : PySem.W.keepIn K (.ref f_sGcd) = true)
    (a_sWalls : PySem.W.nsIn K mainGlobals "walls_at" = some (some (.ref f_sWalls))) (l_sWalls : K.lookup f_sWalls = some ⟨oc_sWalls, od_sWalls, .func (PySem.W.fnOf "walls_at" "walls_at" (defArgs sWalls) (defBody sWalls) (defScope sWalls) .none kV_sWalls dc_sWalls pm_sWalls an_sWalls cd_sWalls ct_sWalls), sl_sWalls⟩) (c_sWalls : PySem.W.codeIn K cd_sWalls "walls_at" = true) (k_sWalls : PySem.W.keepIn K (.ref f_sWalls) = true)
    (a_sOnLn : PySem.W.nsIn K mainGlobals "is_on_line" = some (some (.ref f_sOnLn))) (l_sOnLn : K.lookup f_sOnLn = some ⟨oc_sOnLn, od_sOnLn, .func (PySem.W.fnOf "is_on_line" "is_on_line" (defArgs sOnLn) (defBody sOnLn) (defScope sOnLn) .none kV_sOnLn dc_sOnLn pm_sOnLn an_sOnLn cd_sOnLn ct_sOnLn), sl_sOnLn⟩) (c_sOnLn : PySem.W.codeIn K cd_sOnLn "is_on_line" = true) (k_sOnLn : PySem.W.keepIn K (.ref f_sOnLn) = true) :
    ∃ fd : FuncData, (∀ (s : Shared) (us : List Value), us.length = (["x", "y", "z", "u", "v", "w", "room"] : List Str).length → BindsTo s fd ⟨us, []⟩ ((["x", "y", "z", "u", "v", "w", "room"] : List Str).zip us)) ∧ ∀ base : Heap, K.In base → base.Ns mainGlobals mg → FnOk P w K mg base CX0 10 fa fd ["x", "y", "z", "u", "v", "w", "room"] (spMeets K) := by
  have T : Tx mg := ⟨PySem.W.mg_none_of X G n_len, PySem.W.mg_none_of X G n_range, PySem.W.mg_none_of X G n_abs, PySem.W.mg_none_of X G n_min, PySem.W.mg_none_of X G n_max, PySem.W.mg_none_of X G n_sum, PySem.W.mg_none_of X G n_enum, ⟨_, PySem.W.mg_of X G n_fewest⟩, ⟨_, PySem.W.mg_of X G n_most⟩, ⟨_, PySem.W.mg_of X G n_far⟩, ⟨_, PySem.W.mg_of X G n_stuff⟩⟩
  have Z : Tz mg := ⟨PySem.W.mg_none_of X G n_zip⟩
  have Y : Ty mg := ⟨⟨_, PySem.W.mg_of X G n_out⟩, ⟨_, PySem.W.mg_of X G n_surf⟩, ⟨_, PySem.W.mg_of X G n_ins⟩⟩
  have B_sJudge : Fb K mg "judge" sJudge ["room"] := fb_mk X G a_sJudge l_sJudge c_sJudge k_sJudge (fun us hl => match us, hl with | [_], _ => rfl)
  have B_sMeets : Fb K mg "meets" sMeets ["x", "y", "z", "u", "v", "w", "room"] := fb_mk X G a_sMeets l_sMeets c_sMeets k_sMeets (fun us hl => match us, hl with | [_, _, _, _, _, _, _], _ => rfl)
  have B_sFf : Fb K mg "find_fault" sFf ["room"] := fb_mk X G a_sFf l_sFf c_sFf k_sFf (fun us hl => match us, hl with | [_], _ => rfl)
  have B_sFl : Fb K mg "find_fault_of_lines" sFl ["lines"] := fb_mk X G a_sFl l_sFl c_sFl k_sFl (fun us hl => match us, hl with | [_], _ => rfl)
  have B_sCount : Fb K mg "count_corners" sCount ["room"] := fb_mk X G a_sCount l_sCount c_sCount k_sCount (fun us hl => match us, hl with | [_], _ => rfl)
  have B_sWhole : Fb K mg "has_whole_corners" sWhole ["room"] := fb_mk X G a_sWhole l_sWhole c_sWhole k_sWhole (fun us hl => match us, hl with | [_], _ => rfl)
  have B_sHead : Fb K mg "has_sound_head" sHead ["room"] := fb_mk X G a_sHead l_sHead c_sHead k_sHead (fun us hl => match us, hl with | [_], _ => rfl)
  have B_sStuff : Fb K mg "is_stuff" sStuff ["number"] := fb_mk X G a_sStuff l_sStuff c_sStuff k_sStuff (fun us hl => match us, hl with | [_], _ => rfl)
  have B_sCoord : Fb K mg "is_coordinate" sCoord ["number"] := fb_mk X G a_sCoord l_sCoord c_sCoord k_sCoord (fun us hl => match us, hl with | [_], _ => rfl)
  have B_sBad : Fb K mg "first_wrong_corner" sBad ["room"] := fb_mk X G a_sBad l_sBad c_sBad k_sBad (fun us hl => match us, hl with | [_], _ => rfl)
  have B_sLines : Fb K mg "lines_of" sLines ["room"] := fb_mk X G a_sLines l_sLines c_sLines k_sLines (fun us hl => match us, hl with | [_], _ => rfl)
  have B_sRx : Fb K mg "run_along_x" sRx ["line"] := fb_mk X G a_sRx l_sRx c_sRx k_sRx (fun us hl => match us, hl with | [_], _ => rfl)
  have B_sRy : Fb K mg "run_along_y" sRy ["line"] := fb_mk X G a_sRy l_sRy c_sRy k_sRy (fun us hl => match us, hl with | [_], _ => rfl)
  have B_sStraight : Fb K mg "is_straight" sStraight ["line"] := fb_mk X G a_sStraight l_sStraight c_sStraight k_sStraight (fun us hl => match us, hl with | [_], _ => rfl)
  have B_sDir : Fb K mg "has_direction" sDir ["line"] := fb_mk X G a_sDir l_sDir c_sDir k_sDir (fun us hl => match us, hl with | [_], _ => rfl)
  have B_sWrong : Fb K mg "first_wrong_line" sWrong ["lines"] := fb_mk X G a_sWrong l_sWrong c_sWrong k_sWrong (fun us hl => match us, hl with | [_], _ => rfl)
  have B_sPar : Fb K mg "are_parallel" sPar ["one", "other"] := fb_mk X G a_sPar l_sPar c_sPar k_sPar (fun us hl => match us, hl with | [_, _], _ => rfl)
  have B_sGoing : Fb K mg "first_line_going_on" sGoing ["lines"] := fb_mk X G a_sGoing l_sGoing c_sGoing k_sGoing (fun us hl => match us, hl with | [_], _ => rfl)
  have B_sLmet : Fb K mg "first_line_met" sLmet ["lines"] := fb_mk X G a_sLmet l_sLmet c_sLmet k_sLmet (fun us hl => match us, hl with | [_], _ => rfl)
  have B_sMet : Fb K mg "is_met" sMet ["lines", "i"] := fb_mk X G a_sMet l_sMet c_sMet k_sMet (fun us hl => match us, hl with | [_, _], _ => rfl)
  have B_sCommon : Fb K mg "have_common_point" sCommon ["one", "other"] := fb_mk X G a_sCommon l_sCommon c_sCommon k_sCommon (fun us hl => match us, hl with | [_, _], _ => rfl)
  have B_sOver : Fb K mg "spans_overlap" sOver ["one", "other", "axis"] := fb_mk X G a_sOver l_sOver c_sOver k_sOver (fun us hl => match us, hl with | [_, _, _], _ => rfl)
  have B_sReach : Fb K mg "reaches_across" sReach ["one", "other"] := fb_mk X G a_sReach l_sReach c_sReach k_sReach (fun us hl => match us, hl with | [_, _], _ => rfl)
  have B_sSide : Fb K mg "side_of" sSide ["line", "x", "y"] := fb_mk X G a_sSide l_sSide c_sSide k_sSide (fun us hl => match us, hl with | [_, _, _], _ => rfl)
  have B_sArea : Fb K mg "twice_area" sArea ["lines"] := fb_mk X G a_sArea l_sArea c_sArea k_sArea (fun us hl => match us, hl with | [_], _ => rfl)
  have B_sPlace : Fb K mg "place_in_room" sPlace ["room", "x", "y", "z"] := fb_mk X G a_sPlace l_sPlace c_sPlace k_sPlace (fun us hl => match us, hl with | [_, _, _, _], _ => rfl)
  have B_sHeight : Fb K mg "place_in_height" sHeight ["h", "z"] := fb_mk X G a_sHeight l_sHeight c_sHeight k_sHeight (fun us hl => match us, hl with | [_, _], _ => rfl)
  have B_sPlan : Fb K mg "place_in_plan" sPlan ["lines", "x", "y"] := fb_mk X G a_sPlan l_sPlan c_sPlan k_sPlan (fun us hl => match us, hl with | [_, _, _], _ => rfl)
  have B_sTouch : Fb K mg "is_touched" sTouch ["lines", "way"] := fb_mk X G a_sTouch l_sTouch c_sTouch k_sTouch (fun us hl => match us, hl with | [_, _], _ => rfl)
  have B_sPass : Fb K mg "is_passed" sPass ["line", "x", "y"] := fb_mk X G a_sPass l_sPass c_sPass k_sPass (fun us hl => match us, hl with | [_, _, _], _ => rfl)
  have B_sStop : Fb K mg "first_stop" sStop ["room", "p", "q"] := fb_mk X G a_sStop l_sStop c_sStop k_sStop (fun us hl => match us, hl with | [_, _, _], _ => rfl)
  have B_sDepths : Fb K mg "depths" sDepths ["h", "lines", "point"] := fb_mk X G a_sDepths l_sDepths c_sDepths k_sDepths (fun us hl => match us, hl with | [_, _, _], _ => rfl)
  have B_sNear : Fb K mg "is_nearer" sNear ["one", "other"] := fb_mk X G a_sNear l_sNear c_sNear k_sNear (fun us hl => match us, hl with | [_, _], _ => rfl)
  have B_sOnWay : Fb K mg "place_on_way" sOnWay ["p", "q", "stop"] := fb_mk X G a_sOnWay l_sOnWay c_sOnWay k_sOnWay (fun us hl => match us, hl with | [_, _, _], _ => rfl)
  have B_sGcd : Fb K mg "common_divisor" sGcd ["one", "other"] := fb_mk X G a_sGcd l_sGcd c_sGcd k_sGcd (fun us hl => match us, hl with | [_, _], _ => rfl)
  have B_sWalls : Fb K mg "walls_at" sWalls ["room", "place"] := fb_mk X G a_sWalls l_sWalls c_sWalls k_sWalls (fun us hl => match us, hl with | [_, _], _ => rfl)
  have B_sOnLn : Fb K mg "is_on_line" sOnLn ["line", "place"] := fb_mk X G a_sOnLn l_sOnLn c_sOnLn k_sOnLn (fun us hl => match us, hl with | [_, _], _ => rfl)
  obtain ⟨f, fd, F, hm, hb⟩ := B_sMeets.ex
  have e := hfa.symm.trans hm
  cases e
  refine ⟨fd, fun s us hu => .of_eq (hb us hu), fun base _ _ => ?_⟩
  have d_rx := ok_rx (P := P) (w := w) (base := base) B_sRx
  have d_ry := ok_ry (P := P) (w := w) (base := base) B_sRy
  have d_st := ok_str B_sStraight d_rx d_ry
  have d_dir := ok_dir T B_sDir d_rx d_ry d_st
  have d_par := ok_par B_sPar d_rx d_ry
  have d_side := ok_side B_sSide d_rx d_ry
  have d_reach := ok_reach B_sReach d_side
  have d_over := ok_over (P := P) (w := w) (base := base) T B_sOver
  have d_com := ok_com B_sCommon d_over d_reach
  have d_cnt := ok_cnt (P := P) (w := w) (base := base) T B_sCount
  have d_stuff := ok_stuff (P := P) (w := w) (base := base) T B_sStuff
  have d_coord := ok_coord (P := P) (w := w) (base := base) T B_sCoord
  have d_whole := ok_whole T B_sWhole d_cnt
  have d_head := ok_head T B_sHead d_stuff
  have d_bad := ok_bad T B_sBad d_cnt d_coord d_stuff
  have d_lines := ok_lines T B_sLines d_cnt
  have d_wrong := ok_wrong T B_sWrong d_dir
  have d_going := ok_going T B_sGoing d_par
  have d_met := ok_met T B_sMet d_com
  have d_lmet := ok_lmet T B_sLmet d_met
  have d_area := ok_area (P := P) (w := w) (base := base) T B_sArea
  have d_fl := ok_fl T B_sFl d_wrong d_going d_lmet d_area
  have d_ff := ok_ff B_sFf d_whole d_head d_bad d_lines d_fl
  have d_jd := B_sJudge.of (fun f fd F => fn_jd F d_ff)
  have d_touch := ok_touch B_sTouch d_com
  have d_pass := ok_pass B_sPass d_side d_ry
  have d_ht := ok_height (P := P) (w := w) (base := base) Y B_sHeight
  have d_plan := ok_plan T Y B_sPlan d_touch d_pass
  have d_place := ok_place T B_sPlace d_lines d_plan d_ht
  have d_gcd := ok_gcd (P := P) (w := w) (base := base) B_sGcd
  have d_near := ok_near (P := P) (w := w) (base := base) B_sNear
  have d_dep := ok_depths B_sDepths d_side
  have d_onln := ok_onln B_sOnLn d_com
  have d_walls := ok_walls T B_sWalls d_lines d_onln
  have d_onway := ok_onway T B_sOnWay d_gcd
  have d_stop := ok_stop T Z B_sStop d_lines d_reach d_dep d_near
  exact fn_mt T Y F d_jd d_place d_stop d_onway d_walls
end Rm
open PySem PySem.W PyProof.Rows
set_option maxRecDepth 100000 in
set_option maxHeartbeats 0 in
theorem PySem.Challenge.cw_roomacoustics_s06_meets_holds : PySem.Challenge.rw_roomacoustics_s06_meets.Holds := by
  w_on; k_headS; (case hw => exact ⟨[.int 0, .int 0, .int 0, .int 0, .int 0, .int 0, .list []], by decide +kernel, by decide +kernel⟩)
  k_fillS
  refine L2.walk_specK (r := PySem.Challenge.rw_roomacoustics_s06_meets) (k := 10) (CX := L2.CX0) (ps := ["x", "y", "z", "u", "v", "w", "room"]) (sp := Rm.spMeets) (by decide +kernel) rfl rfl ⟨rfl, by decide, by decide⟩ (fun w h Y => PySem.W.kIn_of Y) ?F ?S (fun _ _ _ _ z => z)
  case F =>
    intro w mg fa h Y KX G hmg
    refine' Rm.all_mk KX G hmg ?n_len ?n_range ?n_abs ?n_min ?n_max ?n_sum ?n_enum ?n_zip ?n_fewest ?n_most ?n_far ?n_stuff ?n_out ?n_surf ?n_ins ?a_sJudge ?l_sJudge ?c_sJudge ?k_sJudge ?a_sMeets ?l_sMeets ?c_sMeets ?k_sMeets ?a_sFf ?l_sFf ?c_sFf ?k_sFf ?a_sFl ?l_sFl ?c_sFl ?k_sFl ?a_sCount ?l_sCount ?c_sCount ?k_sCount ?a_sWhole ?l_sWhole ?c_sWhole ?k_sWhole ?a_sHead ?l_sHead ?c_sHead ?k_sHead ?a_sStuff ?l_sStuff ?c_sStuff ?k_sStuff ?a_sCoord ?l_sCoord ?c_sCoord ?k_sCoord ?a_sBad ?l_sBad ?c_sBad ?k_sBad ?a_sLines ?l_sLines ?c_sLines ?k_sLines ?a_sRx ?l_sRx ?c_sRx ?k_sRx ?a_sRy ?l_sRy ?c_sRy ?k_sRy ?a_sStraight ?l_sStraight ?c_sStraight ?k_sStraight ?a_sDir ?l_sDir ?c_sDir ?k_sDir ?a_sWrong ?l_sWrong ?c_sWrong ?k_sWrong ?a_sPar ?l_sPar ?c_sPar ?k_sPar ?a_sGoing ?l_sGoing ?c_sGoing ?k_sGoing ?a_sLmet ?l_sLmet ?c_sLmet ?k_sLmet ?a_sMet ?l_sMet ?c_sMet ?k_sMet ?a_sCommon ?l_sCommon ?c_sCommon ?k_sCommon ?a_sOver ?l_sOver ?c_sOver ?k_sOver ?a_sReach ?l_sReach ?c_sReach ?k_sReach ?a_sSide ?l_sSide ?c_sSide ?k_sSide ?a_sArea ?l_sArea ?c_sArea ?k_sArea ?a_sPlace ?l_sPlace ?c_sPlace ?k_sPlace ?a_sHeight ?l_sHeight ?c_sHeight ?k_sHeight ?a_sPlan ?l_sPlan ?c_sPlan ?k_sPlan ?a_sTouch ?l_sTouch ?c_sTouch ?k_sTouch ?a_sPass ?l_sPass ?c_sPass ?k_sPass ?a_sStop ?l_sStop ?c_sStop ?k_sStop ?a_sDepths ?l_sDepths ?c_sDepths ?k_sDepths ?a_sNear ?l_sNear ?c_sNear ?k_sNear ?a_sOnWay ?l_sOnWay ?c_sOnWay ?k_sOnWay ?a_sGcd ?l_sGcd ?c_sGcd ?k_sGcd ?a_sWalls ?l_sWalls ?c_sWalls ?k_sWalls ?a_sOnLn ?l_sOnLn ?c_sOnLn ?k_sOnLn
    (case n_len => k_is)
    (case n_range => k_is)
    (case n_abs => k_is)
    (case n_min => k_is)
    (case n_max => k_is)
    (case n_sum => k_is)
    (case n_enum => k_is)
    (case n_zip => k_is)
    (case n_fewest => k_is)
    (case n_most => k_is)
    (case n_far => k_is)
    (case n_stuff => k_is)
    (case n_out => k_is)
    (case n_surf => k_is)
    (case n_ins => k_is)
    (case a_sJudge => k_is)
    (case l_sJudge => k_is)
    (case c_sJudge => k_is)
    (case k_sJudge => k_is)
    (case a_sMeets => k_is)
    (case l_sMeets => k_is)
    (case c_sMeets => k_is)
    (case k_sMeets => k_is)
    (case a_sFf => k_is)
    (case l_sFf => k_is)
    (case c_sFf => k_is)
    (case k_sFf => k_is)
    (case a_sFl => k_is)
    (case l_sFl => k_is)
    (case c_sFl => k_is)
    (case k_sFl => k_is)
    (case a_sCount => k_is)
    (case l_sCount => k_is)
    (case c_sCount => k_is)
    (case k_sCount => k_is)
    (case a_sWhole => k_is)
    (case l_sWhole => k_is)
    (case c_sWhole => k_is)
    (case k_sWhole => k_is)
    (case a_sHead => k_is)
    (case l_sHead => k_is)
    (case c_sHead => k_is)
    (case k_sHead => k_is)
    (case a_sStuff => k_is)
    (case l_sStuff => k_is)
    (case c_sStuff => k_is)
    (case k_sStuff => k_is)
    (case a_sCoord => k_is)
    (case l_sCoord => k_is)
    (case c_sCoord => k_is)
    (case k_sCoord => k_is)
    (case a_sBad => k_is)
    (case l_sBad => k_is)
    (case c_sBad => k_is)
    (case k_sBad => k_is)
    (case a_sLines => k_is)
    (case l_sLines => k_is)
    (case c_sLines => k_is)
    (case k_sLines => k_is)
    (case a_sRx => k_is)
    (case l_sRx => k_is)
    (case c_sRx => k_is)
    (case k_sRx => k_is)
    (case a_sRy => k_is)
    (case l_sRy => k_is)
    (case c_sRy => k_is)
    (case k_sRy => k_is)
    (case a_sStraight => k_is)
    (case l_sStraight => k_is)
    (case c_sStraight => k_is)
    (case k_sStraight => k_is)
    (case a_sDir => k_is)
    (case l_sDir => k_is)
    (case c_sDir => k_is)
    (case k_sDir => k_is)
    (case a_sWrong => k_is)
    (case l_sWrong => k_is)
    (case c_sWrong => k_is)
    (case k_sWrong => k_is)
    (case a_sPar => k_is)
    (case l_sPar => k_is)
    (case c_sPar => k_is)
    (case k_sPar => k_is)
    (case a_sGoing => k_is)
    (case l_sGoing => k_is)
    (case c_sGoing => k_is)
    (case k_sGoing => k_is)
    (case a_sLmet => k_is)
    (case l_sLmet => k_is)
    (case c_sLmet => k_is)
    (case k_sLmet => k_is)
    (case a_sMet => k_is)
    (case l_sMet => k_is)
    (case c_sMet => k_is)
    (case k_sMet => k_is)
    (case a_sCommon => k_is)
    (case l_sCommon => k_is)
    (case c_sCommon => k_is)
    (case k_sCommon => k_is)
    (case a_sOver => k_is)
    (case l_sOver => k_is)
    (case c_sOver => k_is)
    (case k_sOver => k_is)
    (case a_sReach => k_is)
    (case l_sReach => k_is)
    (case c_sReach => k_is)
    (case k_sReach => k_is)
    (case a_sSide => k_is)
    (case l_sSide => k_is)
    (case c_sSide => k_is)
    (case k_sSide => k_is)
    (case a_sArea => k_is)
    (case l_sArea => k_is)
    (case c_sArea => k_is)
    (case k_sArea => k_is)
    (case a_sPlace => k_is)
    (case l_sPlace => k_is)
    (case c_sPlace => k_is)
    (case k_sPlace => k_is)
    (case a_sHeight => k_is)
    (case l_sHeight => k_is)
    (case c_sHeight => k_is)
    (case k_sHeight => k_is)
    (case a_sPlan => k_is)
    (case l_sPlan => k_is)
    (case c_sPlan => k_is)
    (case k_sPlan => k_is)
    (case a_sTouch => k_is)
    (case l_sTouch => k_is)
    (case c_sTouch => k_is)
    (case k_sTouch => k_is)
    (case a_sPass => k_is)
    (case l_sPass => k_is)
    (case c_sPass => k_is)
    (case k_sPass => k_is)
    (case a_sStop => k_is)
    (case l_sStop => k_is)
    (case c_sStop => k_is)
    (case k_sStop => k_is)
    (case a_sDepths => k_is)
    (case l_sDepths => k_is)
    (case c_sDepths => k_is)
    (case k_sDepths => k_is)
    (case a_sNear => k_is)
    (case l_sNear => k_is)
    (case c_sNear => k_is)
    (case k_sNear => k_is)
    (case a_sOnWay => k_is)
    (case l_sOnWay => k_is)
    (case c_sOnWay => k_is)
    (case k_sOnWay => k_is)
    (case a_sGcd => k_is)
    (case l_sGcd => k_is)
    (case c_sGcd => k_is)
    (case k_sGcd => k_is)
    (case a_sWalls => k_is)
    (case l_sWalls => k_is)
    (case c_sWalls => k_is)
    (case k_sWalls => k_is)
    (case a_sOnLn => k_is)
    (case l_sOnLn => k_is)
    (case c_sOnLn => k_is)
    (case k_sOnLn => k_is)
  case S =>
    intro K H xs a hO hwi hask hx
    cases hx with
    | cons i0 hx =>
      cases i0
      cases hx with
      | cons i1 hx =>
        cases i1
        cases hx with
        | cons i2 hx =>
          cases i2
          cases hx with
          | cons i3 hx =>
            cases i3
            cases hx with
            | cons i4 hx =>
              cases i4
              cases hx with
              | cons i5 hx =>
                cases i5
                cases hx with
                | cons h1 h2 =>
                  cases h2
                  cases h1 with
                  | lst hs ha =>
                    have e := L2.ints_dw a.2.2.2.2.2.2.1 _ ha
                    subst e
                    have q : (Codec.inInt (_root_.Int.negSucc 115792089237316195423570985008687907853269984665640564039457584007913129639935) (_root_.Int.ofNat 115792089237316195423570985008687907853269984665640564039457584007913129639935) (a.1) && (Codec.inInt (_root_.Int.negSucc 115792089237316195423570985008687907853269984665640564039457584007913129639935) (_root_.Int.ofNat 115792089237316195423570985008687907853269984665640564039457584007913129639935) (a.2.1) && (Codec.inInt (_root_.Int.negSucc 115792089237316195423570985008687907853269984665640564039457584007913129639935) (_root_.Int.ofNat 115792089237316195423570985008687907853269984665640564039457584007913129639935) (a.2.2.1) && (Codec.inInt (_root_.Int.negSucc 115792089237316195423570985008687907853269984665640564039457584007913129639935) (_root_.Int.ofNat 115792089237316195423570985008687907853269984665640564039457584007913129639935) (a.2.2.2.1) && (Codec.inInt (_root_.Int.negSucc 115792089237316195423570985008687907853269984665640564039457584007913129639935) (_root_.Int.ofNat 115792089237316195423570985008687907853269984665640564039457584007913129639935) (a.2.2.2.2.1) && (Codec.inInt (_root_.Int.negSucc 115792089237316195423570985008687907853269984665640564039457584007913129639935) (_root_.Int.ofNat 115792089237316195423570985008687907853269984665640564039457584007913129639935) (a.2.2.2.2.2.1) && ((Codec.inLen 0 1000 (a.2.2.2.2.2.2.1) && (a.2.2.2.2.2.2.1).all (Codec.inInt (_root_.Int.negSucc 115792089237316195423570985008687907853269984665640564039457584007913129639935) (_root_.Int.ofNat 115792089237316195423570985008687907853269984665640564039457584007913129639935))) && true))))))) = true := hwi
                    simp only [Bool.and_eq_true] at q
                    refine ⟨_, a.2.2.2.2.2.2.1, a.1, a.2.1, a.2.2.1, a.2.2.2.1, a.2.2.2.2.1, a.2.2.2.2.2.1, rfl, hs, (Codec.inNat_iff.mp q.2.2.2.2.2.2.1.1).2, ⟨Rm.bt_req (Codec.inInt_iff.mp q.1).1 (Codec.inInt_iff.mp q.1).2, Rm.bt_req (Codec.inInt_iff.mp q.2.1).1 (Codec.inInt_iff.mp q.2.1).2, Rm.bt_req (Codec.inInt_iff.mp q.2.2.1).1 (Codec.inInt_iff.mp q.2.2.1).2⟩, ⟨Rm.bt_req (Codec.inInt_iff.mp q.2.2.2.1).1 (Codec.inInt_iff.mp q.2.2.2.1).2, Rm.bt_req (Codec.inInt_iff.mp q.2.2.2.2.1).1 (Codec.inInt_iff.mp q.2.2.2.2.1).2, Rm.bt_req (Codec.inInt_iff.mp q.2.2.2.2.2.1).1 (Codec.inInt_iff.mp q.2.2.2.2.2.1).2⟩, fun H' p hp => ?_⟩
                    show L2.Dw K H' _ (.list ((PyYqbeaa.meets (a.1) (a.2.1) (a.2.2.1) (a.2.2.2.1) (a.2.2.2.2.1) (a.2.2.2.2.2.1) (a.2.2.2.2.2.2.1)).map WData.int))
                    rw [Rm.meets_P]
                    exact .lst (L2.SqL.of hp) (L2.dw_ints _)
#print axioms PySem.Challenge.cw_roomacoustics_s06_meets_holds
