import PyProof.Rows.All
import Wide.All
import OpenK.AllK
import Wide.FinOn
import PyProof.EqAt
import PyProof.EqKinds
import PyProof.TupleCall
import KE.BitLaws
import Open.SpecLaws
import KE.OsHead
import KE.OsGo
import KE.KSortKeySt
import KE.KLam
import Sw16Spec
import PySw16
import KE.KNestM
import PySem.Challenge.RW_textends_s01_answers
section
-- CHANGE: your row's module here, as the last of these rows
set_option Elab.async false
set_option linter.all false
set_option maxRecDepth 100000
/-! THE HAND LAYER, for ints, bools, texts, own classes, lists, tuples, dicts, comprehensions, walks over dicts, enumerate, zip, reversed, texts, calls, loops. Paste it whole ahead of your own text; what your proof does not reach may be deleted. -/
namespace L2
open PySem PySem.Spec PyProof.Rows

/-- a key: an int or a str -/
abbrev Key := Sum Int Str
def keyIs : Key → Value → Bool
  | .inl k, v => Value.isInt k v
  | .inr x, v => Value.isStrOf x v
def keyH (w : World) : Key → Int
  | .inl k => hashInt k
  | .inr x => hashStr w x
theorem keyIs_shape : ∀ {k : Key} {v : Value}, keyIs k v = true → (∃ i t, k = Sum.inl i ∧ v = Value.int i t) ∨ (∃ x t, k = Sum.inr x ∧ v = Value.str x t)
  | .inl i, v, h => by
    obtain ⟨t, e⟩ := Value.isInt_shape (k := i) (v := v) h
    exact .inl ⟨i, t, rfl, e⟩
  | .inr x, v, h => by
    obtain ⟨t, e⟩ := Value.isStrOf_shape (x := x) (v := v) h
    exact .inr ⟨x, t, rfl, e⟩
theorem key_ll (a b : Int) : decide ((Sum.inl a : Key) = Sum.inl b) = (a == b) := by
  by_cases e : a = b
  · subst e; simp
  · have h : ¬ (Sum.inl a : Key) = Sum.inl b := fun q => e (Sum.inl.inj q)
    rw [decide_eq_false h]
    exact (beq_eq_false_iff_ne.mpr e).symm
theorem key_rr (a b : Str) : decide ((Sum.inr a : Key) = Sum.inr b) = decide (a = b) := by
  by_cases e : a = b
  · subst e; simp
  · have h : ¬ (Sum.inr a : Key) = Sum.inr b := fun q => e (Sum.inr.inj q)
    rw [decide_eq_false h, decide_eq_false e]
theorem key_lr (a : Int) (b : Str) : decide ((Sum.inl a : Key) = Sum.inr b) = false := decide_eq_false (fun q => nomatch q)
theorem key_rl (a : Str) (b : Int) : decide ((Sum.inr a : Key) = Sum.inl b) = false := decide_eq_false (fun q => nomatch q)

def mixKind (prog : Program) (w : World) : PySem.KeyKind prog w Key where
  is := keyIs
  hash := keyH w
  inj := fun v a b ha hb => by
    rcases keyIs_shape ha with ⟨i, t, rfl, rfl⟩ | ⟨x, t, rfl, rfl⟩
    · rcases keyIs_shape hb with ⟨j, u, rfl, e⟩ | ⟨y, u, rfl, e⟩
      · injection e with e1 _; rw [e1]
      · exact nomatch e
    · rcases keyIs_shape hb with ⟨j, u, rfl, e⟩ | ⟨y, u, rfl, e⟩
      · exact nomatch e
      · injection e with e1 _; rw [e1]
  byValue := fun k v h => by
    rcases keyIs_shape h with ⟨i, t, rfl, rfl⟩ | ⟨x, t, rfl, rfl⟩ <;> rfl
  pyHash := fun hv h => by
    rcases keyIs_shape hv with ⟨i, t, rfl, rfl⟩ | ⟨x, t, rfl, rfl⟩
    · exact wpAny_pyHash_int h
    · exact wpAny_pyHash_str h
  eqBool := fun hu hv h => by
    rcases keyIs_shape hu with ⟨i, t, rfl, rfl⟩ | ⟨x, t, rfl, rfl⟩
    · rcases keyIs_shape hv with ⟨j, u, rfl, rfl⟩ | ⟨y, u, rfl, rfl⟩
      · rw [key_ll] at h; exact wpAny_eqBool_int h
      · rw [key_lr] at h; exact SeqAt.EqAt.int_str i t y u _ _ _ _ h
    · rcases keyIs_shape hv with ⟨j, u, rfl, rfl⟩ | ⟨y, u, rfl, rfl⟩
      · rw [key_rl] at h; exact SeqAt.EqAt.str_int x t j u _ _ _ _ h
      · rw [key_rr] at h; exact wpAny_eqBool_str h
  «strs» := fun k x t v h => by
    rcases keyIs_shape h with ⟨i, u, rfl, e⟩ | ⟨y, u, rfl, e⟩
    · exact nomatch e
    · injection e with e1 _
      subst e1
      cases v <;> rfl

end L2

namespace L2
open PySem PySem.Spec PyProof.Rows

/-- a value, without the heap -/
inductive V where
  | non | bl (b : Bool) | int (i : Int) | str (x : Str) | byt (b : Array UInt8) | flt (b : UInt64) | ref (a : Addr) | ty (n : String)
  deriving DecidableEq

def RelV : V → Value → Prop
  | .non, u => u = Value.none
  | .bl b, u => u = Value.bool b
  | .int i, u => ∃ t, u = Value.int i t
  | .str x, u => ∃ t, u = Value.str x t
  | .byt b, u => ∃ t, u = Value.bytes b t
  | .flt b, u => ∃ t, u = Value.float b t
  | .ref a, u => u = Value.ref a
  | .ty n, u => u = Value.type n

abbrev Vals : List V → List Value → Prop := Paired RelV
theorem Vals.length {xs : List V} {us : List Value} (r : Vals xs us) : xs.length = us.length := Paired.length r
theorem Vals.get : ∀ {xs : List V} {us : List Value} {i : Nat} {x : V}, Vals xs us → xs[i]? = some x → ∃ u, us[i]? = some u ∧ RelV x u
  | _, _, _, _, .nil, e => by simp at e
  | _, _, 0, _, .cons r _, e => by simp at e; subst e; exact ⟨_, rfl, r⟩
  | _, _, i + 1, x, .cons _ t, e => by
    obtain ⟨u, h1, h2⟩ := Vals.get (i := i) (x := x) t (by simpa using e)
    exact ⟨u, by simpa using h1, h2⟩
theorem Vals.set {x : V} {u : Value} (r : RelV x u) : ∀ {xs : List V} {us : List Value} (i : Nat), Vals xs us → Vals (xs.set i x) (us.set i u)
  | _, _, _, .nil => .nil
  | _, _, 0, .cons _ t => .cons r t
  | _, _, i + 1, .cons q t => .cons q (Vals.set r i t)
theorem Vals.append : ∀ {xs ys : List V} {us ws : List Value}, Vals xs us → Vals ys ws → Vals (xs ++ ys) (us ++ ws)
  | _, _, _, _, .nil, s => s
  | _, _, _, _, .cons r t, s => .cons r (Vals.append t s)
theorem Vals.take : ∀ {xs : List V} {us : List Value} (n : Nat), Vals xs us → Vals (xs.take n) (us.take n)
  | _, _, 0, _ => .nil
  | _, _, _ + 1, .nil => .nil
  | _, _, n + 1, .cons r t => .cons r (Vals.take n t)
theorem Vals.drop : ∀ {xs : List V} {us : List Value} (n : Nat), Vals xs us → Vals (xs.drop n) (us.drop n)
  | _, _, 0, r => r
  | _, _, _ + 1, .nil => .nil
  | _, _, n + 1, .cons _ t => Vals.drop n t
def RelO : Option V → Option Value → Prop
  | some v, some u => RelV v u
  | none, none => True
  | _, _ => False
def KV {κ : Type} : List (κ × V) → List (κ × Value) → Prop := Paired fun (p : κ × V) (q : κ × Value) => p.1 = q.1 ∧ RelV p.2 q.2

/-- a key of a dict (00_mix): an int or a text -/
def kV : Key → V
  | .inl i => .int i
  | .inr x => .str x

/-- what stands at a tracked address -/
inductive HO where
  /-- a list -/
  | lst (xs : List V)
  /-- a tuple (never changes) -/
  | tup (xs : List V)
  /-- a dict whose keys are ints and texts; one whose keys are tuples of ints and texts (the empty one is both) -/
  | dK (kvs : List (Key × V)) | dT (kvs : List (List Key × V))
  /-- a set of ints: its members, its size -/
  | set (S : Int → Bool) (n : Nat)
  /-- an instance of the class at C, its dict at dx, its attributes -/
  | ins (C dx : Addr) (fs : List (Str × V))
  /-- the dict of the instance at x -/
  | own (x : Addr)
  /-- the dict of an exception -/
  | xd (fs : List (Str × V))
  /-- a bound method, f of x -/
  | met (f x : Addr)
  /-- a range object lo, lo + 1, .. below hi -/
  | rng (lo hi : Int)
  /-- a thing that is known to the object (the script; a dict while a loop walks it): read, never written while it is so -/
  | frz (o : Obj) (u : HO)
  /-- a code object's table -/
  | tbl (ps : Array Value)
  /-- any other thing, by what is true of its one object (a def of one's own: SetO a S n := HO.ext fun h => ..) -/
  | ext (φ : Heap → Prop)

abbrev Hp := Addr → Option HO
def upd (H : Hp) (a : Addr) (o : HO) : Hp := fun b => if b = a then some o else H b
theorem upd_same {H : Hp} {a : Addr} {o : HO} : upd H a o a = some o := by unfold upd; rw [if_pos rfl]
theorem upd_ne {H : Hp} {a b : Addr} {o : HO} (h : b ≠ a) : upd H a o b = H b := by unfold upd; rw [if_neg h]
/-- two objects of different content stand apart -/
theorem ne_of {H : Hp} {a b : Addr} {o u : HO} (h : H a = some o) (h' : H b = some u) (d : o ≠ u) : a ≠ b := by
  intro e; subst e; rw [h] at h'; exact d (Option.some.inj h')
theorem ne_of_none {H : Hp} {a b : Addr} {o : HO} (h : H a = some o) (h' : H b = none) : a ≠ b := by
  intro e; subst e; rw [h] at h'; cases h'

section
variable (P : Program) (w : World)
def ObjOk (H : Hp) (h : Heap) (a : Addr) : HO → Prop
  | .lst xs => xs.length ≤ sizeLine ∧ ∃ (its : List Value) (n : Nat), Vals xs its ∧ h.get? a = some { cls := .type "list", data := .seq its.toArray n }
  | .tup xs => xs.length ≤ sizeLine ∧ ∃ its : List Value, Vals xs its ∧ IsTup h a its.toArray
  | .dK kvs => kvs.length ≤ sizeLine ∧ (a == sysModules) = false ∧ ∃ vs, KV kvs vs ∧ h.DictOf (mixKind P w) a vs
  | .dT kvs => kvs.length ≤ sizeLine ∧ (a == sysModules) = false ∧ ∃ xs : List (List Key × Addr × Value),
      Paired (fun (p : List Key × V) (q : List Key × Addr × Value) => p.1 = q.1 ∧ H q.2.1 = some (.tup (p.1.map kV)) ∧ RelV p.2 q.2.2) kvs xs ∧
      ∃ o es ep, h.get? a = some o ∧ o.ExactDict ∧ o.data = .dict es ep ∧ es.toList = xs.map (entryOfKey (tupleKind (mixKind P w))) ∧ (xs.map (·.1)).Nodup
  | .set S n => h.SetOf (intKind P w) a S n
  | .ins C dx fs => H dx = some (.own a) ∧ fs.length ≤ 1000 ∧ dx ≠ a ∧ h.get? a = some (PySem.W.instObj C dx) ∧
      ∃ mA, h.Ns1 dx mA ∧ (∀ f, RelO (fs.lookup f) (mA f)) ∧ PySem.Within mA (fs.map (·.1))
  | .own _ => ∃ o, h.get? a = some o
  | .xd fs => ∃ mA, h.Ns1 a mA ∧ ∀ f, RelO (fs.lookup f) (mA f)
  | .rng lo hi => ∃ t u v, h.get? a = some { cls := .type "range", data := .fields #[.int lo t, .int hi u, .int 1 v] }
  | .frz o u => h.get? a = some o ∧ ObjOk H h a u
  | .tbl ps => h.get? a = some { cls := .none, data := .fields ps }
  | .met f x => h.get? a = some (PySem.W.methodObj (.ref f) (.ref x))
  | .ext φ => φ h ∧ (∃ o, h.get? a = some o) ∧ ∀ h1 h2 : Heap, φ h1 → (∀ o, h1.get? a = some o → h2.get? a = some o) → φ h2
/-- the abstract heap is held -/
def HOk (H : Hp) (h : Heap) : Prop := ∀ a o, H a = some o → ObjOk P w H h a o
end

section
variable {P : Program} {w : World} {H H' : Hp} {h h' : Heap} {a : Addr} {o : HO}
theorem ObjOk.lt (x : ObjOk P w H h a o) : a < h.objs.size := by
  cases o with
  | lst xs => obtain ⟨_, _, _, _, e⟩ := x; exact Heap.lt_size e
  | tup xs => obtain ⟨_, _, _, p⟩ := x; exact p.lt
  | dK kvs => obtain ⟨_, _, _, _, o, _, _, e, _⟩ := x; exact Heap.lt_size e
  | dT kvs => obtain ⟨_, _, _, _, o, _, _, e, _⟩ := x; exact Heap.lt_size e
  | set S n => obtain ⟨o, _, _, _, e, _⟩ := x; exact Heap.lt_size e
  | ins C dx fs => obtain ⟨_, _, _, e, _⟩ := x; exact Heap.lt_size e
  | own y => obtain ⟨_, e⟩ := x; exact Heap.lt_size e
  | xd fs => obtain ⟨_, ⟨_, _, _, e, _⟩, _⟩ := x; exact Heap.lt_size e
  | rng lo hi => obtain ⟨_, _, _, e⟩ := x; exact Heap.lt_size e
  | frz ob u => obtain ⟨e, _⟩ := x; exact Heap.lt_size e
  | tbl ps => exact Heap.lt_size (show h.get? a = some _ from x)
  | met f y => exact Heap.lt_size (show h.get? a = some _ from x)
  | ext φ => obtain ⟨_, ⟨_, e⟩, _⟩ := x; exact Heap.lt_size e
theorem Paired.mapP {α β : Type} {F G : α → β → Prop} : ∀ {l₁ : List α} {l₂ : List β}, Paired F l₁ l₂ → (∀ a b, F a b → G a b) → Paired G l₁ l₂
  | _, _, .nil, _ => .nil
  | _, _, .cons r t, f => .cons (f _ _ r) (Paired.mapP t f)
/-- what an object's description leans on: its own object, its own dict, the tuples -/
theorem ObjOk.stay (x : ObjOk P w H h a o) (k : ∀ b u, (b = a ∨ H b = some (.own a)) → h.get? b = some u → h'.get? b = some u)
    (ho : ∀ b, H b = some (.own a) → H' b = some (.own a)) (ht : ∀ b xs, H b = some (.tup xs) → H' b = some (.tup xs)) : ObjOk P w H' h' a o := by
  induction o with
  | lst xs => obtain ⟨z, its, n, r, e⟩ := x; exact ⟨z, its, n, r, k _ _ (.inl rfl) e⟩
  | tup xs => obtain ⟨z, its, r, ob, e, c⟩ := x; exact ⟨z, its, r, ob, k _ _ (.inl rfl) e, c⟩
  | dK kvs => obtain ⟨z, y, vs, r, ob, es, ep, e, c⟩ := x; exact ⟨z, y, vs, r, ob, es, ep, k _ _ (.inl rfl) e, c⟩
  | dT kvs =>
    obtain ⟨z, y, xs, r, ob, es, ep, e, c⟩ := x
    exact ⟨z, y, xs, Paired.mapP r fun p q z => ⟨z.1, ht _ _ z.2.1, z.2.2⟩, ob, es, ep, k _ _ (.inl rfl) e, c⟩
  | set S n => obtain ⟨ob, es, ep, t, e, c⟩ := x; exact ⟨ob, es, ep, t, k _ _ (.inl rfl) e, c⟩
  | ins C dx fs =>
    obtain ⟨d, z, ne, e, mA, ⟨od, es, ep, e2, c⟩, r⟩ := x
    exact ⟨ho _ d, z, ne, k _ _ (.inl rfl) e, mA, ⟨od, es, ep, k _ _ (.inr d) e2, c⟩, r⟩
  | own y => obtain ⟨ob, e⟩ := x; exact ⟨ob, k _ _ (.inl rfl) e⟩
  | xd fs => obtain ⟨mA, ⟨od, es, ep, e, c⟩, r⟩ := x; exact ⟨mA, ⟨od, es, ep, k _ _ (.inl rfl) e, c⟩, r⟩
  | rng lo hi => obtain ⟨t, u, v, e⟩ := x; exact ⟨t, u, v, k _ _ (.inl rfl) e⟩
  | frz ob u ih => obtain ⟨e, q⟩ := x; exact ⟨k _ _ (.inl rfl) e, ih q⟩
  | tbl ps =>
    have e : h.get? a = some { cls := .none, data := .fields ps } := x
    show h'.get? a = some { cls := .none, data := .fields ps }
    exact k a _ (.inl rfl) e
  | met f y =>
    have e : h.get? a = some (PySem.W.methodObj (.ref f) (.ref y)) := x
    show h'.get? a = some (PySem.W.methodObj (.ref f) (.ref y))
    exact k a _ (.inl rfl) e
  | ext φ => obtain ⟨p, ⟨o, e⟩, st⟩ := x; exact ⟨st _ _ p fun o q => k _ _ (.inl rfl) q, ⟨o, k _ _ (.inl rfl) e⟩, st⟩
theorem HOk.lt (x : HOk P w H h) (e : H a = some o) : a < h.objs.size := (x a o e).lt
theorem HOk.fresh (x : HOk P w H h) (e : h.objs.size ≤ a) : H a = none := by
  cases q : H a with
  | none => rfl
  | some u => exact absurd (Nat.lt_of_lt_of_le (x.lt q) e) (Nat.lt_irrefl _)
/-- every object of the heap is kept -/
theorem HOk.kept (x : HOk P w H h) (k : ∀ b u, h.get? b = some u → h'.get? b = some u) : HOk P w H h' := fun a o e =>
  (x a o e).stay (fun b u _ q => k b u q) (fun _ q => q) fun _ _ q => q
/-- a new object is laid and tracked -/
theorem HOk.laid (x : HOk P w H h) (k : ∀ b u, h.get? b = some u → h'.get? b = some u) (hp : h.objs.size ≤ a) (new : ObjOk P w (upd H a o) h' a o) : HOk P w (upd H a o) h' := fun b u e => by
  have hn := x.fresh hp
  by_cases hb : b = a
  · subst hb; rw [upd_same] at e; cases e; exact new
  · rw [upd_ne hb] at e
    exact (x b u e).stay (fun c v _ q => k c v q) (fun c q => by rw [upd_ne (ne_of_none q hn)]; exact q) fun c xs q => by rw [upd_ne (ne_of_none q hn)]; exact q
end

/-- what may be read as u: it is u, or a known u -/
def Rd (H : Hp) (a : Addr) (u : HO) : Prop := H a = some u ∨ ∃ o, H a = some (.frz o u)
theorem Rd.ok {P : Program} {w : World} {H : Hp} {h : Heap} {a : Addr} {u : HO} (r : Rd H a u) (x : HOk P w H h) : ObjOk P w H h a u := by
  rcases r with r | ⟨o, r⟩
  · exact x a u r
  · obtain ⟨_, q⟩ := x a _ r
    exact q
/-- what may be written -/
def Mut : Option HO → Prop
  | some (.lst _) => True
  | some (.dK _) => True
  | some (.dT _) => True
  | some (.set _ _) => True
  | some (.ins _ _ _) => True
  | some (.ext _) => True
  | _ => False
section
variable {P : Program} {w : World} {H : Hp} {h h' : Heap} {x e : Addr} {o' : HO}
/-- the object at e is changed: x itself, or the dict of the instance x -/
theorem HOk.write (ok : HOk P w H h) (mu : Mut (H x)) (he : e = x ∨ H e = some (.own x)) (k : ∀ b u, b ≠ e → h.get? b = some u → h'.get? b = some u) (heo : ∃ u, h'.get? e = some u)
    (new : ObjOk P w (upd H x o') h' x o') : HOk P w (upd H x o') h' := fun b u q => by
  have nown : ∀ c y, H c = some (.own y) → c ≠ x := fun c y r z => by subst z; rw [r] at mu; exact mu
  have ntup : ∀ c xs, H c = some (.tup xs) → c ≠ x := fun c xs r z => by subst z; rw [r] at mu; exact mu
  by_cases hb : b = x
  · subst hb; rw [upd_same] at q; cases q; exact new
  · rw [upd_ne hb] at q
    by_cases hbe : b = e
    · have q' : H b = some (.own x) := by
        rcases he with z | z
        · exact absurd (hbe.trans z) hb
        · rw [hbe]; exact z
      rw [q] at q'; cases q'
      obtain ⟨v, hv⟩ := heo
      exact ⟨v, by rw [hbe]; exact hv⟩
    · refine (ok b u q).stay (fun c v hc r => k c v ?_ r) (fun c r => by rw [upd_ne (nown c b r)]; exact r) fun c xs r => by rw [upd_ne (ntup c xs r)]; exact r
      rcases hc with rfl | hc
      · exact hbe
      · rintro rfl
        rcases he with z | z
        · exact nown c b hc z
        · rw [hc] at z; cases z; exact hb rfl
end

/-! ### kept unless tracked; of the frames at fs (the callers') the slots may change (an exception that passes writes there); of the records at ex (iterators) nothing is said -/
structure Un (fs ex : List Addr) (H H' : Hp) (h h' : Heap) : Prop where
  keep : ∀ b o, h.get? b = some o → H b = none → b ∉ fs → b ∉ ex → h'.get? b = some o
  slot : ∀ b o, h.get? b = some o → H b = none → b ∈ fs → b ∉ ex → ∃ sl, h'.get? b = some { o with slots := sl }
  free : ∀ b o, h.get? b = some o → H b = none → b ∉ ex → H' b = none
  there : ∀ b o, h.get? b = some o → b ∉ ex → ∃ o', h'.get? b = some o'
  tups : ∀ b xs, H b = some (.tup xs) → H' b = some (.tup xs)
  frzs : ∀ b o u, H b = some (.frz o u) → H' b = some (.frz o u)
  tbls : ∀ b ps, H b = some (.tbl ps) → ∃ more, H' b = some (.tbl (ps ++ more))
section
variable {fs fs' ex ex' : List Addr} {H H1 H2 : Hp} {h h1 h2 h' : Heap} {a x e : Addr} {o : HO}
theorem Un.any (u : Un fs ex H H1 h h1) {b : Addr} {ob : Obj} (q : h.get? b = some ob) (n : H b = none) (hx : b ∉ ex) : ∃ sl, h1.get? b = some { ob with slots := sl } := by
  by_cases hb : b ∈ fs
  · exact u.slot b ob q n hb hx
  · exact ⟨ob.slots, u.keep b ob q n hb hx⟩
theorem Un.kept (k : ∀ b u, h.get? b = some u → h'.get? b = some u) : Un fs ex H H h h' :=
  ⟨fun b ob q _ _ _ => k b ob q, fun b ob q _ _ _ => ⟨ob.slots, k b ob q⟩, fun _ _ _ n _ => n, fun b ob q _ => ⟨ob, k b ob q⟩, fun _ _ q => q, fun _ _ _ q => q, fun _ ps q => ⟨#[], by rw [q]; simp⟩⟩
theorem Un.refl : Un fs ex H H h h := Un.kept fun _ _ q => q
theorem Un.laid (k : ∀ b u, h.get? b = some u → h'.get? b = some u) (hp : h.objs.size ≤ a) (hn : H a = none) : Un fs ex H (upd H a o) h h' where
  keep := fun b u q _ _ _ => k b u q
  slot := fun b u q _ _ _ => ⟨u.slots, k b u q⟩
  free := fun b u q n _ => by rw [upd_ne (Nat.ne_of_lt (Nat.lt_of_lt_of_le (Heap.lt_size q) hp))]; exact n
  there := fun b u q _ => ⟨u, k b u q⟩
  tups := fun b xs q => by rw [upd_ne (ne_of_none q hn)]; exact q
  frzs := fun b u xs q => by rw [upd_ne (ne_of_none q hn)]; exact q
  tbls := fun b ps q => ⟨#[], by rw [upd_ne (ne_of_none q hn), q]; simp⟩
theorem Un.write (mu : Mut (H x)) (he : e = x ∨ H e = some (.own x)) (k : ∀ b u, b ≠ e → h.get? b = some u → h'.get? b = some u) (heo : ∃ u, h'.get? e = some u) : Un fs ex H (upd H x o) h h' := by
  have hx : ∀ b, H b = none → b ≠ x := fun b n z => by subst z; rw [n] at mu; exact mu
  have hb : ∀ b, H b = none → b ≠ e := fun b n z => by
    subst z
    rcases he with r | r
    · exact hx b n r
    · rw [n] at r; cases r
  have hm : ∀ b u, H b = some u → ¬ Mut (some u) → b ≠ x := fun b u q nm z => by subst z; rw [q] at mu; exact nm mu
  refine ⟨fun b u q n _ _ => k b u (hb b n) q, fun b u q n _ _ => ⟨u.slots, k b u (hb b n) q⟩, fun b u q n _ => by rw [upd_ne (hx b n)]; exact n, fun b u q _ => ?_,
    fun b xs q => by rw [upd_ne (hm b _ q fun z => z)]; exact q, fun b u xs q => by rw [upd_ne (hm b _ q fun z => z)]; exact q, fun b ps q => ⟨#[], by rw [upd_ne (hm b _ q fun z => z), q]; simp⟩⟩
  by_cases hbe : b = e
  · subst hbe; exact heo
  · exact ⟨u, k b u hbe q⟩
end

/-! ### the heap without what is tracked -/
def trk (h : Heap) (H : Hp) : List Addr := (List.range h.objs.size).filter fun a => (H a).isSome
def hidT (h : Heap) (H : Hp) : Heap := PySem.W.hideAll h (trk h H)
theorem hidT_size (h : Heap) (H : Hp) : (hidT h H).objs.size = h.objs.size := PySem.W.hideAll_size _ _
theorem hidT_get {h : Heap} {H : Hp} {b : Addr} {o : Obj} (e : h.get? b = some o) (n : H b = none) : (hidT h H).get? b = some o :=
  PySem.W.hideAll_get _ e fun hm => by
    have q : (H b).isSome = true := (List.mem_filter.mp hm).2
    rw [n] at q; simp at q
theorem of_hidT {h : Heap} {H : Hp} {b : Addr} {o : Obj} (e : (hidT h H).get? b = some o) : h.get? b = some o ∧ H b = none := by
  have e' : h.get? b = some o := PySem.W.of_hideAll (trk h H) e
  refine ⟨e', ?_⟩
  cases q : H b with
  | none => rfl
  | some x =>
    have hm : b ∈ trk h H := List.mem_filter.mpr ⟨List.mem_range.mpr (Heap.lt_size e'), by simp [q]⟩
    have z : (hidT h H).get? b = none := PySem.W.hideAll_none (trk h H) hm
    rw [z] at e; cases e

/-! ### OpenK's ledger, filled with every new object but one -/
def allNews (g h : Heap) (L : Addr) : List (Addr × Obj) := (List.range h.objs.size).filterMap fun a => if a = L ∨ (g.get? a).isSome = true then none else (h.get? a).map fun o => (a, o)
theorem mem_allNews {g h : Heap} {L a : Addr} {o : Obj} (h1 : a ≠ L) (h2 : g.get? a = none) (h3 : h.get? a = some o) : (a, o) ∈ allNews g h L :=
  List.mem_filterMap.mpr ⟨a, List.mem_range.mpr (Heap.lt_size h3), by simp [h1, h2, h3]⟩
theorem of_mem_allNews {g h : Heap} {L : Addr} {p : Addr × Obj} (hp : p ∈ allNews g h L) : p.1 ≠ L ∧ g.get? p.1 = none ∧ h.get? p.1 = some p.2 := by
  obtain ⟨b, _, e⟩ := List.mem_filterMap.mp hp
  split at e
  · cases e
  · rename_i hn
    cases q : h.get? b with
    | none => rw [q] at e; simp at e
    | some u =>
      rw [q] at e
      simp only [Option.map_some, Option.some.injEq] at e
      subst e
      refine ⟨fun z => hn (.inl z), ?_, q⟩
      show g.get? b = none
      cases r : g.get? b with
      | none => rfl
      | some v => exact (hn (.inr (by simp [r]))).elim
def rest (g h : Heap) (L d : Addr) : List (Addr × Obj) := (allNews g h L).filter fun p => decide (p.1 ≠ d)
theorem news_all {g h : Heap} {L : Addr} : News g L h (allNews g h L) := fun p hp => let ⟨a, b, c⟩ := of_mem_allNews hp; ⟨c, a, b⟩
end L2

namespace L2
open PySem PySem.Spec PyProof.Rows

/-- the module's facts, over the base: the heap at the law's entry without what is tracked there -/
structure Mod (K : PySem.W.Frag) (mg : Str → Option Value) (base : Heap) : Prop where
  kin : K.In base
  glob : base.Ns mainGlobals mg
  blt : ∃ mb, base.Ns builtinsNs mb ∧ ∀ x : Str, x ≠ "__name__" → mb x = bootBuiltins x
  nolimit : base.NoLimit

/-- the context: a def's body (or a comprehension's block) running. base: fixed through the whole law; s₀, H₀: the entry; outer: the frames whose slots others may change (a def's callers); stack: all frames that run;
   ex: iterators that were made ahead of the entry and are walked here (a comprehension's); fn: the names whose cells were made at the entry (a def: all; a comprehension's block: its own); calm: not within an except suite; pn: pins that every state bears; xe: what is wanted of an exception that leaves the code -/
structure Cx where
  prog : Program
  w : World
  K : PySem.W.Frag
  mg : Str → Option Value
  base : Heap
  A : Around
  N : List Str
  s_0 : Shared
  H_0 : Hp
  env : Env
  outer : List Env
  stack : List Env
  ex : List Addr
  fn : Str → Bool
  calm : Bool
  pn : List (Addr × Obj)
  xe : Value → Shared → Prop
/-- the callers' frames -/
def frs (l : List Env) : List Addr := l.filterMap (·.frame)
abbrev Cx.fs (X : Cx) : List Addr := frs X.outer

def Vis (sc : Scope) (x : Str) : Prop := sc.names.lookup x = some .local ∨ sc.names.lookup x = some .cell ∨ sc.names.lookup x = some .free
def Loc (sc : Scope) (x : Str) : Prop := sc.names.lookup x = some .local ∨ sc.names.lookup x = some .cell
def Look (env : Env) (h : Heap) (m : Str → Option Value) (x : Str) (u : Value) : Prop :=
  (env.kindOf x = some .local ∧ m x = some u) ∨ ((env.kindOf x = some .cell ∨ env.kindOf x = some .free) ∧ ∃ c, env.cells.lookup x = some c ∧ h.IsCell c (some u))

structure Cx.Ok (X : Cx) : Prop where
  mod : Mod X.K X.mg X.base
  kind : X.env.scope.kind = .function
  glob : X.env.globals = mainGlobals
  blt : X.env.builtins = builtinsNs
  above : X.s_0.heap.objs.size ≤ X.env.locals
  inj : ∀ x y c, X.env.cells.lookup x = some c → X.env.cells.lookup y = some c → x = y
  has : ∀ x, (X.env.kindOf x = some .cell ∨ X.env.kindOf x = some .free) → ∃ c, X.env.cells.lookup x = some c
  cab : ∀ x c, X.fn x = true → X.env.cells.lookup x = some c → X.s_0.heap.objs.size ≤ c
  hd : X.calm = true → X.A.handled = none
  frames : X.A.frames = some X.stack
  stk : X.stack = X.outer ∨ (X.stack = X.env :: X.outer ∧ X.env.frame = some X.env.locals)
  exf : ∀ b ∈ X.ex, b ≠ X.env.locals ∧ ∀ x c, X.env.cells.lookup x = some c → c ≠ b
  bs : ∀ b o, X.base.get? b = some o → X.s_0.heap.get? b = some o ∧ X.H_0 b = none
  bsz : X.base.objs.size ≤ X.s_0.heap.objs.size
  noex : ∀ b o, X.base.get? b = some o → b ∉ X.ex
  exfs : ∀ b ∈ X.ex, b ∉ X.fs
  funs : X.s_0.heap.FunFrames X.base X.outer
  frf : ∀ b ∈ X.fs, X.H_0 b = none

structure Inv (X : Cx) (pins : List (Addr × Obj)) (σ : List (Option V)) (H : Hp) (s : Shared) : Prop where
  ok : X.Ok
  os : s.os = X.s_0.os
  bare : AllBare s.gens
  base : Un X.fs X.ex X.H_0 H X.s_0.heap s.heap
  loc : ∃ m, s.heap.Ns X.env.locals m ∧ ∀ (i : Nat) (x : Str) (v : V), X.N[i]? = some x → σ[i]? = some (some v) → Vis X.env.scope x → ∃ u, RelV v u ∧ Look X.env s.heap m x u
  cell : ∀ x c, X.env.cells.lookup x = some c → ∃ v, s.heap.IsCell c v
  free : H X.env.locals = none
  freeC : ∀ x c, X.env.cells.lookup x = some c → H c = none
  pin : ∀ p ∈ X.pn ++ pins, s.heap.get? p.1 = some p.2 ∧ H p.1 = none ∧ p.1 ≠ X.env.locals ∧ p.1 ∉ X.fs ∧ ∀ v, p.2.data ≠ .cell v
  hok : HOk X.prog X.w H s.heap
  len : σ.length = X.N.length

section
variable {X : Cx} {pins : List (Addr × Obj)} {σ : List (Option V)} {H H' : Hp} {s : Shared} {h' : Heap}

theorem Cx.Ok.nofr (ok : X.Ok) {b : Addr} {o : Obj} (e : X.base.get? b = some o) : b ∉ X.fs := fun hb => by
  have := (ok.funs.mem hb).1
  rw [e] at this; cases this
theorem Inv.bs (I : Inv X pins σ H s) : ∀ b o, X.base.get? b = some o → s.heap.get? b = some o ∧ H b = none := fun b o e =>
  ⟨I.base.keep b o (I.ok.bs b o e).1 (I.ok.bs b o e).2 (I.ok.nofr e) (I.ok.noex b o e), I.base.free b o (I.ok.bs b o e).1 (I.ok.bs b o e).2 (I.ok.noex b o e)⟩
theorem Inv.bk (I : Inv X pins σ H s) : ∀ b o, X.base.get? b = some o → s.heap.get? b = some o := fun b o e => (I.bs b o e).1
theorem Inv.mod (I : Inv X pins σ H s) : Mod X.K X.mg X.base := I.ok.mod
theorem Inv.kIn (I : Inv X pins σ H s) : X.K.In s.heap := I.ok.mod.kin.keeps I.bk
/-- the frame over the base: for OpenK's rules (K.In X.base is I.mod.kin) -/
theorem Inv.fr (I : Inv X pins σ H s) : ∃ m, Fr X.base X.env.locals s.heap m :=
  let ⟨m, hn, _⟩ := I.loc
  ⟨m, hn, I.bk, Nat.le_trans I.ok.bsz I.ok.above⟩
theorem Inv.lt (I : Inv X pins σ H s) : X.env.locals < s.heap.objs.size := let ⟨_, hn, _⟩ := I.loc; hn.lt
theorem Inv.sz (I : Inv X pins σ H s) : X.s_0.heap.objs.size ≤ s.heap.objs.size := Nat.le_trans I.ok.above (Nat.le_of_lt I.lt)
theorem Inv.nofs (I : Inv X pins σ H s) {a : Addr} (h : s.heap.objs.size ≤ a) : a ∉ X.fs := fun hb => by
  obtain ⟨_, o, ho, _⟩ := I.ok.funs.mem hb
  exact absurd (Nat.lt_of_lt_of_le (Heap.lt_size ho) (Nat.le_trans I.sz h)) (Nat.lt_irrefl _)
theorem Inv.cne (I : Inv X pins σ H s) : ∀ x c, X.env.cells.lookup x = some c → c ≠ X.env.locals := fun x c e z => by
  obtain ⟨v, o, ho, hd⟩ := I.cell x c e
  obtain ⟨m, ⟨o', es, ep, ho', hd', _⟩, _⟩ := I.loc
  rw [z, ho'] at ho; cases ho; rw [hd'] at hd; cases hd
theorem Inv.funs (I : Inv X pins σ H s) : s.heap.FunFrames X.base X.outer := by
  have all : ∀ (l : List Env), (∀ b ∈ frs l, b ∈ X.fs) → X.s_0.heap.FunFrames X.base l → s.heap.FunFrames X.base l := by
    intro l
    induction l with
    | nil => intro _ _; trivial
    | cons env r ih =>
      intro hs hl
      obtain ⟨hk, ⟨L, o, hf, hn, ho, hd⟩, hr⟩ := hl
      have hL : L ∈ X.fs := hs L (by unfold frs; rw [List.filterMap_cons, hf]; exact List.mem_cons_self)
      obtain ⟨sl, e⟩ := I.base.slot L o ho (I.ok.frf L hL) hL fun z => I.ok.exfs L z hL
      exact ⟨hk, ⟨L, _, hf, hn, e, hd⟩, ih (fun b hb => hs b (by unfold frs; rw [List.filterMap_cons, hf]; exact List.mem_cons_of_mem _ hb)) hr⟩
  exact all X.outer (fun _ hb => hb) I.ok.funs

/-- the frames that run, for a call -/
theorem Inv.stack (I : Inv X pins σ H s) : s.heap.FunFrames X.base X.stack := by
  rcases I.ok.stk with e | ⟨e, hf⟩
  · rw [e]; exact I.funs
  · rw [e]
    obtain ⟨m, hn, _⟩ := I.loc
    refine .cons (by rw [I.ok.kind]; decide) hf hn ?_ I.funs
    exact Heap.get?_none_of_le (Nat.le_trans I.ok.bsz I.ok.above)
theorem Inv.stkSub (I : Inv X pins σ H s) : ∀ b ∈ frs X.stack, b ∈ X.env.locals :: X.fs := fun b hb => by
  rcases I.ok.stk with e | ⟨e, hf⟩
  · rw [e] at hb; exact List.mem_cons_of_mem _ hb
  · rw [e] at hb
    unfold frs at hb
    rw [List.filterMap_cons, hf] at hb
    exact hb
theorem Inv.stkFree (I : Inv X pins σ H s) : ∀ b ∈ frs X.stack, H b = none := fun b hb => by
  rcases List.mem_cons.mp (I.stkSub b hb) with e | hb
  · rw [e]; exact I.free
  · obtain ⟨_, o, ho, _⟩ := I.ok.funs.mem hb
    exact I.base.free b o ho (I.ok.frf b hb) fun z => I.ok.exfs b z hb

/-- THE STEP: the untracked objects but the frame and the records at ch are kept (the callers' frames up to slots), the frame's map is kept, the new abstract heap is held -/
theorem Inv.step {g' : Array GenState} {t' : Nat} {d' : Drawn} {ch : List Addr} (I : Inv X pins σ H s)
    (hch : ∀ b ∈ ch, (b ∈ X.ex ∨ X.s_0.heap.objs.size ≤ b) ∧ b ≠ X.env.locals ∧ (∀ x c, X.env.cells.lookup x = some c → c ≠ b) ∧ ∀ p ∈ X.pn ++ pins, p.1 ≠ b)
    (keep : ∀ b o, b ≠ X.env.locals → b ∉ X.fs → b ∉ ch → s.heap.get? b = some o → H b = none → h'.get? b = some o)
    (slot : ∀ b o, b ≠ X.env.locals → b ∈ X.fs → b ∉ ch → s.heap.get? b = some o → H b = none → ∃ sl, h'.get? b = some { o with slots := sl }) (free : ∀ b o, b ∉ ch → s.heap.get? b = some o → H b = none → H' b = none)
    (there : ∀ b o, b ∉ ch → s.heap.get? b = some o → ∃ o', h'.get? b = some o')
    (tups : ∀ b xs, H b = some (.tup xs) → H' b = some (.tup xs)) (frzs : ∀ b o u, H b = some (.frz o u) → H' b = some (.frz o u)) (tbls : ∀ b ps, H b = some (.tbl ps) → ∃ more, H' b = some (.tbl (ps ++ more)))
    (ns : ∀ m, s.heap.Ns X.env.locals m → h'.Ns X.env.locals m) (hok : HOk X.prog X.w H' h') (hg : AllBare g') :
    Inv X pins σ H' { s with heap := h', gens := g', drawn := d', toks := t' } := by
  have neL : ∀ b o, X.s_0.heap.get? b = some o → b ≠ X.env.locals := fun b o e => Nat.ne_of_lt (Nat.lt_of_lt_of_le (Heap.lt_size e) I.ok.above)
  have neC : ∀ b o, X.s_0.heap.get? b = some o → b ∉ X.ex → b ∉ ch := fun b o e hx hb => by
    rcases (hch b hb).1 with z | z
    · exact hx z
    · exact absurd (Nat.lt_of_lt_of_le (Heap.lt_size e) z) (Nat.lt_irrefl _)
  have cellK : ∀ x c, X.env.cells.lookup x = some c → ∀ v, s.heap.IsCell c v → h'.IsCell c v := fun x c e v ⟨o, ho, hd⟩ => by
    have nch : c ∉ ch := fun z => (hch c z).2.2.1 x c e rfl
    by_cases hc : c ∈ X.fs
    · obtain ⟨sl, q⟩ := slot c o (I.cne x c e) hc nch ho (I.freeC x c e)
      exact ⟨_, q, hd⟩
    · exact ⟨o, keep c o (I.cne x c e) hc nch ho (I.freeC x c e), hd⟩
  refine ⟨I.ok, I.os, hg, ⟨fun b o e n hb hx => ?_, fun b o e n hb hx => ?_, fun b o e n hx => ?_, fun b o e hx => ?_, fun b xs e => tups b xs (I.base.tups b xs e), fun b o xs e => frzs b o xs (I.base.frzs b o xs e), fun b ps e => ?_⟩, ?_, fun x c e => ?_, ?_, fun x c e => ?_, fun p hp => ?_, hok, I.len⟩
  · exact keep b o (neL b o e) hb (neC b o e hx) (I.base.keep b o e n hb hx) (I.base.free b o e n hx)
  · obtain ⟨sl, e1⟩ := I.base.slot b o e n hb hx
    obtain ⟨sl', e2⟩ := slot b _ (neL b o e) hb (neC b o e hx) e1 (I.base.free b o e n hx)
    exact ⟨sl', e2⟩
  · obtain ⟨o', e1⟩ := I.base.there b o e hx
    exact free b o' (neC b o e hx) e1 (I.base.free b o e n hx)
  · obtain ⟨o', e1⟩ := I.base.there b o e hx
    exact there b o' (neC b o e hx) e1
  · obtain ⟨m1, e1⟩ := I.base.tbls b ps e
    obtain ⟨m2, e2⟩ := tbls b _ e1
    exact ⟨m1 ++ m2, by rw [e2, Array.append_assoc]⟩
  · obtain ⟨m, hn, hl⟩ := I.loc
    refine ⟨m, ns m hn, fun i x v e1 e2 e3 => ?_⟩
    obtain ⟨u, r, l⟩ := hl i x v e1 e2 e3
    refine ⟨u, r, ?_⟩
    rcases l with l | ⟨k, c, e, z⟩
    · exact .inl l
    · exact .inr ⟨k, c, e, cellK x c e _ z⟩
  · obtain ⟨v, z⟩ := I.cell x c e
    exact ⟨v, cellK x c e v z⟩
  · obtain ⟨m, ⟨o, _, _, ho, _⟩, _⟩ := I.loc
    exact free _ o (fun z => (hch _ z).2.1 rfl) ho I.free
  · obtain ⟨v, o, ho, hd⟩ := I.cell x c e
    exact free c o (fun z => (hch c z).2.2.1 x c e rfl) ho (I.freeC x c e)
  · obtain ⟨e, n, ne, nf, d⟩ := I.pin p hp
    have nch : p.1 ∉ ch := fun z => (hch p.1 z).2.2.2 p hp rfl
    exact ⟨keep p.1 p.2 ne nf nch e n, free p.1 p.2 nch e n, ne, nf, d⟩
/-- .. where the frame's own object is kept too -/
theorem Inv.un {t' : Nat} (I : Inv X pins σ H s) (u : Un X.fs [] H H' s.heap h') (hok : HOk X.prog X.w H' h') : Inv X pins σ H' { s with heap := h', toks := t' } := by
  obtain ⟨m, ⟨o, es, ep, ho, r⟩, _⟩ := id I.loc
  obtain ⟨sl, hL⟩ := u.any ho I.free (by simp)
  exact I.step (g' := s.gens) (d' := s.drawn) (ch := []) (fun _ z => nomatch z) (fun b o _ hb _ e n => u.keep b o e n hb (by simp)) (fun b o _ hb _ e n => u.slot b o e n hb (by simp)) (fun b o _ e n => u.free b o e n (by simp)) (fun b o _ e => u.there b o e (by simp)) u.tups u.frzs u.tbls (fun m' hm => by
    obtain ⟨o', es', ep', ho', r'⟩ := hm
    rw [ho] at ho'; cases ho'
    exact ⟨_, es', ep', hL, r'⟩) hok I.bare
/-- behind a call (or a comprehension's block): the slots of this frame may have changed too, the records at ch may have turned -/
theorem Inv.call {g' : Array GenState} {t' : Nat} {d' : Drawn} {ch : List Addr} (I : Inv X pins σ H s) (u : Un (frs X.stack) ch H H' s.heap h') (hok : HOk X.prog X.w H' h') (hg : AllBare g')
    (hch : ∀ b ∈ ch, (b ∈ X.ex ∨ X.s_0.heap.objs.size ≤ b) ∧ b ≠ X.env.locals ∧ (∀ x c, X.env.cells.lookup x = some c → c ≠ b) ∧ ∀ p ∈ X.pn ++ pins, p.1 ≠ b) :
    Inv X pins σ H' { s with heap := h', gens := g', drawn := d', toks := t' } := by
  obtain ⟨m, ⟨o, es, ep, ho, r⟩, _⟩ := id I.loc
  obtain ⟨sl, hL⟩ := u.any ho I.free fun z => (hch _ z).2.1 rfl
  exact I.step (ch := ch) hch (fun b o hL hb hc e n => u.keep b o e n (fun z => (List.mem_cons.mp (I.stkSub b z)).elim hL hb) hc) (fun b o _ _ hc e n => u.any e n hc) (fun b o hc e n => u.free b o e n hc) (fun b o hc e => u.there b o e hc) u.tups u.frzs u.tbls (fun m' hm => by
    obtain ⟨o', es', ep', ho', r'⟩ := hm
    rw [ho] at ho'; cases ho'
    exact ⟨_, es', ep', hL, r'⟩) hok hg
/-- an untracked record of ours (an iterator) has turned -/
theorem Inv.turned {t' : Nat} {it : Addr} (I : Inv X pins σ H s) (k : ∀ b o, b ≠ it → s.heap.get? b = some o → h'.get? b = some o) (hn : H it = none) (hL : it ≠ X.env.locals)
    (h1 : it ∈ X.ex ∨ X.s_0.heap.objs.size ≤ it) (h2 : ∀ x c, X.env.cells.lookup x = some c → c ≠ it) (h3 : ∀ p ∈ X.pn ++ pins, p.1 ≠ it) : Inv X pins σ H { s with heap := h', toks := t' } := by
  have nit : ∀ b u, H b = some u → b ≠ it := fun b u e z => by rw [z, hn] at e; cases e
  refine I.step (g' := s.gens) (d' := s.drawn) (ch := [it]) (fun b hb => ?_) (fun b o _ _ hc e _ => k b o (fun z => hc (by simp [z])) e) (fun b o _ _ hc e _ => ⟨o.slots, k b o (fun z => hc (by simp [z])) e⟩) (fun _ _ _ _ n => n)
    (fun b o hc e => ⟨o, k b o (fun z => hc (by simp [z])) e⟩) (fun _ _ e => e) (fun _ _ _ e => e) (fun b ps e => ⟨#[], by rw [e]; simp⟩) (fun m hm => ?_) (fun b u e => ?_) I.bare
  · have e : b = it := by simpa using hb
    subst e
    exact ⟨h1, hL, h2, h3⟩
  · obtain ⟨o, es, ep, ho, r⟩ := hm
    exact ⟨o, es, ep, k _ o (Ne.symm hL) ho, r⟩
  · refine (I.hok b u e).stay (fun c v hc q => k c v ?_ q) (fun _ q => q) fun _ _ q => q
    rcases hc with z | z
    · rw [z]; exact nit b u e
    · exact nit c _ z
theorem Inv.tok (I : Inv X pins σ H s) (t : Nat) : Inv X pins σ H { s with toks := t } := I.un (h' := s.heap) (t' := t) Un.refl I.hok
/-- all objects kept -/
theorem Inv.kept {t' : Nat} (I : Inv X pins σ H s) (k : ∀ b u, s.heap.get? b = some u → h'.get? b = some u) : Inv X pins σ H { s with heap := h', toks := t' } := I.un (Un.kept k) (I.hok.kept k)
/-- a new object laid and tracked -/
theorem Inv.laid {a : Addr} {o : HO} {t' : Nat} (I : Inv X pins σ H s) (k : ∀ b u, s.heap.get? b = some u → h'.get? b = some u) (hp : s.heap.objs.size ≤ a) (new : ObjOk X.prog X.w (upd H a o) h' a o) :
    Inv X pins σ (upd H a o) { s with heap := h', toks := t' } := I.un (Un.laid k hp (I.hok.fresh hp)) (I.hok.laid k hp new)
/-- an object written -/
theorem Inv.write {x e : Addr} {o : HO} {t' : Nat} (I : Inv X pins σ H s) (mu : Mut (H x)) (he : e = x ∨ H e = some (.own x)) (k : ∀ b u, b ≠ e → s.heap.get? b = some u → h'.get? b = some u) (heo : ∃ u, h'.get? e = some u)
    (new : ObjOk X.prog X.w (upd H x o) h' x o) : Inv X pins σ (upd H x o) { s with heap := h', toks := t' } := I.un (Un.write mu he k heo) (I.hok.write mu he k heo new)
/-- forgetting slots, pins -/
theorem Inv.weak {σ' : List (Option V)} (I : Inv X pins σ H s) (hl : σ'.length = σ.length) (w : ∀ (i : Nat) v, σ'[i]? = some (some v) → σ[i]? = some (some v)) : Inv X pins σ' H s :=
  ⟨I.ok, I.os, I.bare, I.base, let ⟨m, hn, hl'⟩ := I.loc; ⟨m, hn, fun i x v e1 e2 e3 => hl' i x v e1 (w i v e2) e3⟩, I.cell, I.free, I.freeC, I.pin, I.hok, hl.trans I.len⟩
theorem Inv.pins_of {pins' : List (Addr × Obj)} (I : Inv X pins σ H s) (h : ∀ p ∈ pins', s.heap.get? p.1 = some p.2 ∧ H p.1 = none ∧ p.1 ≠ X.env.locals ∧ p.1 ∉ X.fs ∧ ∀ v, p.2.data ≠ .cell v) : Inv X pins' σ H s :=
  ⟨I.ok, I.os, I.bare, I.base, I.loc, I.cell, I.free, I.freeC, fun p hp => (List.mem_append.mp hp).elim (fun z => I.pin p (List.mem_append_left _ z)) (h p), I.hok, I.len⟩

theorem nodup_ix {N : List Str} (hN : N.Nodup) {i j : Nat} {x : Str} (a : N[i]? = some x) (b : N[j]? = some x) : i = j := by
  obtain ⟨h1, e1⟩ := List.getElem?_eq_some_iff.mp a
  obtain ⟨h2, e2⟩ := List.getElem?_eq_some_iff.mp b
  exact (List.getElem_inj hN).mp (e1.trans e2.symm)

/-- a name is stored; what changed -/
theorem store_ok2 {M : Model} {A : Around} {E : Value → Shared → Prop} {i : Nat} {x : Str} {v : V} {u : Value} {Q : Unit → Shared → Prop} (I : Inv X pins σ H s) (hN : X.N.Nodup) (hi : X.N[i]? = some x) (hx : Loc X.env.scope x) (r : RelV v u)
    (h : ∀ s', Inv X pins (σ.set i (some v)) H s' → (∃ a, Heap.SameBut a s.heap s'.heap ∧ (a = X.env.locals ∨ X.env.cells.lookup x = some a)) → Q () s') (hf : X.fn x = true ∨ X.env.scope.names.lookup x = some .local := by first | exact .inl rfl | exact .inr rfl | assumption) : wpAny M A (storeName X.env x u) Q E s := by
  obtain ⟨m, hn, hl⟩ := id I.loc
  have hcls : (X.env.scope.kind == .class || (X.env.scope.kind == .module && X.env.locals != X.env.globals)) = false := by rw [I.ok.kind]; rfl
  have hiσ : i < σ.length := by rw [I.len]; exact (List.getElem?_eq_some_iff.mp hi).1
  have cne := I.cne
  have tracked : ∀ {a : Addr} {h' : Heap}, (∃ o, s.heap.get? a = some o ∧ H a = none) → Heap.SameBut a s.heap h' → HOk X.prog X.w H h' := fun {a h'} ha hs b ob e => by
    obtain ⟨_, _, hfree⟩ := ha
    refine (I.hok b ob e).stay (fun c w' hc q => (hs.2 c ?_).trans q) (fun _ q => q) fun _ _ q => q
    rintro rfl
    rcases hc with rfl | hc
    · rw [hfree] at e; cases e
    · rw [hfree] at hc; cases hc
  rcases hx with hk | hk
  · refine wpAny_storeName_local hk hn (fun h' hn' hs => ?_) hcls
    obtain ⟨oL, _, _, hoL, _⟩ := id hn
    refine h _ ⟨I.ok, I.os, I.bare, ⟨fun b o e n hb hx => ?_, fun b o e n hb hx => ?_, I.base.free, fun b o e hx => ?_, I.base.tups, I.base.frzs, I.base.tbls⟩, ⟨_, hn', fun j y v' e1 e2 e3 => ?_⟩, fun y c e => ?_, I.free, I.freeC, fun p hp => ?_, tracked ⟨oL, hoL, I.free⟩ hs, by simpa using I.len⟩ ⟨_, hs, .inl rfl⟩
    · exact (hs.2 b (Nat.ne_of_lt (Nat.lt_of_lt_of_le (Heap.lt_size e) I.ok.above))).trans (I.base.keep b o e n hb hx)
    · obtain ⟨sl, e1⟩ := I.base.slot b o e n hb hx
      exact ⟨sl, (hs.2 b (Nat.ne_of_lt (Nat.lt_of_lt_of_le (Heap.lt_size e) I.ok.above))).trans e1⟩
    · obtain ⟨o', e1⟩ := I.base.there b o e hx
      exact ⟨o', (hs.2 b (Nat.ne_of_lt (Nat.lt_of_lt_of_le (Heap.lt_size e) I.ok.above))).trans e1⟩
    · by_cases hj : j = i
      · subst hj
        rw [hi] at e1; cases e1
        rw [List.getElem?_set_self hiσ] at e2
        cases e2
        exact ⟨u, r, .inl ⟨hk, by simp⟩⟩
      · rw [List.getElem?_set_ne (Ne.symm hj)] at e2
        obtain ⟨u', r', q⟩ := hl j y v' e1 e2 e3
        refine ⟨u', r', ?_⟩
        rcases q with ⟨k, e⟩ | ⟨k, c, e, z⟩
        · refine .inl ⟨k, ?_⟩
          have : y ≠ x := fun e => hj (nodup_ix hN e1 (e ▸ hi))
          simp [this, e]
        · exact .inr ⟨k, c, e, z.sameBut hs (cne y c e)⟩
    · obtain ⟨w', z⟩ := I.cell y c e
      exact ⟨w', z.sameBut hs (cne y c e)⟩
    · obtain ⟨e, n, ne, nf, d⟩ := I.pin p hp
      exact ⟨(hs.2 p.1 ne).trans e, n, ne, nf, d⟩
  · have hfn : X.fn x = true := by
      rcases hf with z | z
      · exact z
      · rw [z] at hk; cases hk
    obtain ⟨c, hc⟩ := I.ok.has x (.inl hk)
    obtain ⟨w', z⟩ := I.cell x c hc
    refine wpAny_storeName_cell I.ok.kind hk hc z (fun h' hc' hs => ?_)
    obtain ⟨oc, hoc, hocd⟩ := id z
    refine h { s with heap := h' } ⟨I.ok, I.os, I.bare, ⟨fun b o e n hb hx => ?_, fun b o e n hb hx => ?_, I.base.free, fun b o e hx => ?_, I.base.tups, I.base.frzs, I.base.tbls⟩, ⟨m, hn.sameBut hs (Ne.symm (cne x c hc)), fun j y v' e1 e2 e3 => ?_⟩, fun y c' e => ?_, I.free, I.freeC, fun p hp => ?_, tracked ⟨oc, hoc, I.freeC x c hc⟩ hs, by simpa using I.len⟩ ⟨c, hs, .inr hc⟩
    · exact (hs.2 b (Nat.ne_of_lt (Nat.lt_of_lt_of_le (Heap.lt_size e) (I.ok.cab x c hfn hc)))).trans (I.base.keep b o e n hb hx)
    · obtain ⟨sl, e1⟩ := I.base.slot b o e n hb hx
      exact ⟨sl, (hs.2 b (Nat.ne_of_lt (Nat.lt_of_lt_of_le (Heap.lt_size e) (I.ok.cab x c hfn hc)))).trans e1⟩
    · obtain ⟨o', e1⟩ := I.base.there b o e hx
      exact ⟨o', (hs.2 b (Nat.ne_of_lt (Nat.lt_of_lt_of_le (Heap.lt_size e) (I.ok.cab x c hfn hc)))).trans e1⟩
    · by_cases hj : j = i
      · subst hj
        rw [hi] at e1; cases e1
        rw [List.getElem?_set_self hiσ] at e2
        cases e2
        exact ⟨u, r, .inr ⟨.inl hk, c, hc, hc'⟩⟩
      · rw [List.getElem?_set_ne (Ne.symm hj)] at e2
        obtain ⟨u', r', q⟩ := hl j y v' e1 e2 e3
        refine ⟨u', r', ?_⟩
        rcases q with q | ⟨k, c', e, z'⟩
        · exact .inl q
        · refine .inr ⟨k, c', e, z'.sameBut hs ?_⟩
          rintro rfl
          exact hj (nodup_ix hN e1 (I.ok.inj _ _ _ e hc ▸ hi))
    · by_cases hcc : c' = c
      · subst hcc; exact ⟨_, hc'⟩
      · obtain ⟨w2, z2⟩ := I.cell y c' e
        exact ⟨w2, z2.sameBut hs hcc⟩
    · obtain ⟨e, n, ne, nf, d⟩ := I.pin p hp
      refine ⟨(hs.2 p.1 ?_).trans e, n, ne, nf, d⟩
      intro q
      rw [q, hoc] at e
      have q' : oc = p.2 := Option.some.inj e
      exact d w' (by rw [← q']; exact hocd)
theorem store_ok {M : Model} {A : Around} {E : Value → Shared → Prop} {i : Nat} {x : Str} {v : V} {u : Value} {Q : Unit → Shared → Prop} (I : Inv X pins σ H s) (hN : X.N.Nodup) (hi : X.N[i]? = some x) (hx : Loc X.env.scope x) (r : RelV v u)
    (h : ∀ s', Inv X pins (σ.set i (some v)) H s' → Q () s') (hf : X.fn x = true ∨ X.env.scope.names.lookup x = some .local := by first | exact .inl rfl | exact .inr rfl | assumption) : wpAny M A (storeName X.env x u) Q E s :=
  store_ok2 I hN hi hx r (fun s' I' _ => h s' I') hf
/-- behind a call or a block, the state as it is -/
theorem Inv.call' {s' : Shared} {ch : List Addr} (I : Inv X pins σ H s) (ho : s'.os = s.os) (u : Un (frs X.stack) ch H H' s.heap s'.heap) (hok : HOk X.prog X.w H' s'.heap) (hg : AllBare s'.gens)
    (hch : ∀ b ∈ ch, (b ∈ X.ex ∨ X.s_0.heap.objs.size ≤ b) ∧ b ≠ X.env.locals ∧ (∀ x c, X.env.cells.lookup x = some c → c ≠ b) ∧ ∀ p ∈ X.pn ++ pins, p.1 ≠ b) : Inv X pins σ H' s' := by
  obtain ⟨h', g', d', t', o'⟩ := s'
  have e : o' = s.os := ho
  subst e
  exact I.call (g' := g') (t' := t') (d' := d') u hok hg hch
end

/-! ### the judgements -/
/-- an exception: its class, its own dict's address (where it has one), the abstract heap behind it -/
abbrev XK := Value → Option Addr → Hp → Prop
abbrev St := List (Option V)
abbrev VK := V → Hp → Prop
/-- an expression's reading; a test's; an argument list's -/
abbrev TE := St → Hp → VK → Prop
abbrev TT := St → Hp → (Bool → Hp → Prop) → Prop
abbrev TA := St → Hp → (List V → Hp → Prop) → Prop
/-- what is wanted behind a statement -/
structure Ends where
  nx : St → Hp → Prop
  rt : VK
  bk : St → Hp → Prop := fun _ _ => False
  ct : St → Hp → Prop := fun _ _ => False
abbrev TS := Ends → St → Hp → Prop

def EP (X : Cx) (pins : List (Addr × Obj)) (σ : St) (Q : VK) (u : Value) (s' : Shared) : Prop := ∃ v H', Inv X pins σ H' s' ∧ RelV v u ∧ Q v H'
def TP (X : Cx) (pins : List (Addr × Obj)) (σ : St) (Q : Bool → Hp → Prop) (b : Bool) (s' : Shared) : Prop := ∃ H', Inv X pins σ H' s' ∧ Q b H'
def AP (X : Cx) (pins : List (Addr × Obj)) (σ : St) (Q : List V → Hp → Prop) (us : List Value) (s' : Shared) : Prop := ∃ vs H', Inv X pins σ H' s' ∧ Vals vs us ∧ Q vs H'
def SP (X : Cx) (pins : List (Addr × Obj)) (D : Ends) (f : Flow) (s' : Shared) : Prop :=
  match f with
  | .next => ∃ σ' H', Inv X pins σ' H' s' ∧ D.nx σ' H'
  | .brk => ∃ σ' H', Inv X pins σ' H' s' ∧ D.bk σ' H'
  | .cont => ∃ σ' H', Inv X pins σ' H' s' ∧ D.ct σ' H'
  | .ret u => ∃ v σ' H', Inv X pins σ' H' s' ∧ RelV v u ∧ D.rt v H'

def PE (X : Cx) (e : Expr) (t : TE) : Prop :=
  ∀ (pins : List (Addr × Obj)) (s : Shared) (σ : St) (H : Hp) (Q : VK), Inv X pins σ H s → t σ H Q → wpAny (model X.prog X.w) X.A (eval e X.env) (EP X pins σ Q) X.xe s
def PT (X : Cx) (e : Expr) (t : TT) : Prop :=
  ∀ (pins : List (Addr × Obj)) (s : Shared) (σ : St) (H : Hp) (Q : Bool → Hp → Prop), Inv X pins σ H s → t σ H Q → wpAny (model X.prog X.w) X.A (isTrue e X.env (eval e X.env)) (TP X pins σ Q) X.xe s
/-- a test whatever its 'whole' is (and, or) -/
def PW (X : Cx) (e : Expr) (t : TT) : Prop :=
  ∀ (whole : Sem Value) (pins : List (Addr × Obj)) (s : Shared) (σ : St) (H : Hp) (Q : Bool → Hp → Prop), Inv X pins σ H s → t σ H Q → wpAny (model X.prog X.w) X.A (isTrue e X.env whole) (TP X pins σ Q) X.xe s
theorem PW.pt {X : Cx} {e : Expr} {t : TT} (h : PW X e t) : PT X e t := h _
/-- an argument list (no star), from the left -/
def PA (X : Cx) (es : List Expr) (t : TA) : Prop :=
  ∀ (pos : Pos) (pins : List (Addr × Obj)) (s : Shared) (σ : St) (H : Hp) (Q : List V → Hp → Prop), Inv X pins σ H s → t σ H Q → wpAny (model X.prog X.w) X.A (spliced (backTo pos (starEach es X.env))) (AP X pins σ Q) X.xe s
def PS (X : Cx) (st : Stmt) (t : TS) : Prop :=
  ∀ (pins : List (Addr × Obj)) (s : Shared) (σ : St) (H : Hp) (D : Ends), Inv X pins σ H s → t D σ H → wpAny (model X.prog X.w) X.A (exec st X.env) (SP X pins D) X.xe s
def PSs (X : Cx) (st : List Stmt) (t : TS) : Prop :=
  ∀ (pins : List (Addr × Obj)) (s : Shared) (σ : St) (H : Hp) (D : Ends), Inv X pins σ H s → t D σ H → wpAny (model X.prog X.w) X.A (execs st X.env) (SP X pins D) X.xe s
/-- weaken the end -/
theorem thn {α : Type} {t : Sem α} {Q Q' : α → Shared → Prop} {M : Model} {A : Around} {E : Value → Shared → Prop} {s : Shared} (h : wpAny M A t Q E s) (hQ : ∀ a s, Q a s → Q' a s) : wpAny M A t Q' E s := wpAny_mono h hQ fun _ _ x => x
end L2

namespace L2
open PySem PySem.Spec PyProof.Rows
section
variable {X : Cx}

/-- two expressions in a row -/
theorem bin {a b : Expr} {ta tb : TE} (ha : PE X a ta) (hb : PE X b tb) {pins : List (Addr × Obj)} {s : Shared} {σ : St} {H : Hp} {R : V → V → Hp → Prop} (I : Inv X pins σ H s) (h : ta σ H fun x H1 => tb σ H1 fun y H2 => R x y H2)
    {α : Type} {Q : α → Shared → Prop} {f : Value → Value → Sem α}
    (hf : ∀ v u s2 x y H2, Inv X pins σ H2 s2 → RelV x v → RelV y u → R x y H2 → wpAny (model X.prog X.w) X.A (f v u) Q X.xe s2) :
    wpAny (model X.prog X.w) X.A (eval a X.env) (fun v s₁ => wpAny (model X.prog X.w) X.A (eval b X.env) (fun u s₂ => wpAny (model X.prog X.w) X.A (f v u) Q X.xe s₂) X.xe s₁) X.xe s := by
  refine thn (ha pins s σ H _ I h) fun v s1 ⟨x, H1, I1, r1, q1⟩ => ?_
  refine thn (hb pins s1 σ H1 _ I1 q1) fun u s2 ⟨y, H2, I2, r2, q2⟩ => ?_
  exact hf v u s2 x y H2 I2 r1 r2 q2

/-! ### names and constants -/
def tVar (i : Nat) : TE := fun σ H Q => ∃ v, σ[i]? = some (some v) ∧ Q v H
def tC (v : V) : TE := fun _ H Q => Q v H
theorem pe_var {i : Nat} {x : Str} {pos : Pos} (hN : X.N[i]? = some x) (hv : Vis X.env.scope x) (hd : (x == ("__debug__" : Str)) = false := by decide) (hcd : (x == ("__classdict__" : Str)) = false := by decide) : PE X (.Name x pos) (tVar i) := by
  intro pins s σ H Q I h
  obtain ⟨v, e, h⟩ := h
  obtain ⟨m, hn, hl⟩ := I.loc
  obtain ⟨u, r, l⟩ := hl i x v hN e hv
  have fin : EP X pins σ Q u s := ⟨v, H, I, r, h⟩
  rcases l with ⟨hk, hm⟩ | ⟨hk, c, hc, hcell⟩
  · exact wpAny_Name (wpAny_loadName_local I.ok.kind hk hn hm fin) hd
  · rcases hk with hk | hk
    · exact wpAny_Name (wpAny_loadName_cell I.ok.kind hk hc hcell fin) hd
    · exact wpAny_Name (wpAny_loadName_free I.ok.kind hk hc hcell fin hcd) hd
theorem pe_int {i j pos} : PE X (.Constant (.int i) j pos) (tC (.int i)) := fun _ _ _ H _ I h => wpAny_Constant_int ⟨.int i, H, I.tok _, ⟨_, rfl⟩, h⟩
theorem pe_bl {b j pos} : PE X (.Constant (.bool b) j pos) (tC (.bl b)) := fun _ _ _ H _ I h => Constant_bool ⟨.bl b, H, I, rfl, h⟩
/-- a global name of the def -/
def Gl (X : Cx) (x : Str) : Prop := X.env.kindOf x = some .globalImplicit
theorem ld_glob {E : Value → Shared → Prop} {pins : List (Addr × Obj)} {s : Shared} {σ : St} {H : Hp} {x : Str} {u : Value} {pos : Pos} {Q : Value → Shared → Prop} (I : Inv X pins σ H s) (hg : Gl X x) (hm : X.mg x = some u) (h : Q u s)
    (hd : (x == ("__debug__" : Str)) = false := by decide) : wpAny (model X.prog X.w) X.A (eval (.Name x pos) X.env) Q E s :=
  Calls.Name_function_global I.ok.kind hg (Calls.loadGlobal_global (by rw [I.ok.glob]; exact I.mod.glob.keeps I.bk) hm h) hd
theorem ld_blt {E : Value → Shared → Prop} {pins : List (Addr × Obj)} {s : Shared} {σ : St} {H : Hp} {x : Str} {u : Value} {pos : Pos} {Q : Value → Shared → Prop} (I : Inv X pins σ H s) (hg : Gl X x) (hm : X.mg x = none) (hv : bootBuiltins x = some u) (h : Q u s)
    (hn : x ≠ "__name__" := by decide) (hd : (x == ("__debug__" : Str)) = false := by decide) : wpAny (model X.prog X.w) X.A (eval (.Name x pos) X.env) Q E s := by
  obtain ⟨mb, h1, h2⟩ := I.mod.blt
  exact Calls.Name_function_global I.ok.kind hg (Calls.loadGlobal_builtin (by rw [I.ok.glob]; exact I.mod.glob.keeps I.bk) hm (by rw [I.ok.blt]; exact h1.keeps I.bk) ((h2 x hn).trans hv) h) hd
/-- a module's constant, a class, a function, as a value -/
theorem pe_glob {x : Str} {v : V} {u : Value} {pos : Pos} (hg : Gl X x) (hm : X.mg x = some u) (r : RelV v u) (hd : (x == ("__debug__" : Str)) = false := by decide) : PE X (.Name x pos) (tC v) :=
  fun _ _ _ H _ I h => ld_glob I hg hm ⟨v, H, I, r, h⟩ hd
/-! ### arithmetic -/
variable {a b : Expr} {ta tb : TE} {pos : Pos}
/-! ### comparisons -/
def PC (X : Cx) (op : CmpOp) (a b : Expr) (t : TE) : Prop :=
  ∀ (pins : List (Addr × Obj)) (s : Shared) (σ : St) (H : Hp) (Q : VK), Inv X pins σ H s → t σ H Q →
    wpAny (model X.prog X.w) X.A (eval a X.env) (fun v s₁ => wpAny (model X.prog X.w) X.A (eval b X.env) (fun u s₂ => wpAny (model X.prog X.w) X.A (compareOp op v u) (EP X pins σ Q) X.xe s₂) X.xe s₁) X.xe s
/-- a comparison as a value, as a test -/
def tB (t : TE) : TT := fun σ H Q => t σ H fun x H1 => ∃ c, x = .bl c ∧ Q c H1
theorem pt_cmp {op : CmpOp} {t : TE} (h : PC X op a b t) (h1 : behindInMarks op b = false := by first | exact nobehind _ (by decide) (by decide) | rfl) : PT X (.Compare a [op] [b] pos) (tB t) := by
  intro pins s σ H Q I hw
  refine wpAny_isTrue_Compare1 (thn (h pins s σ H _ I hw) fun v s1 h1 => thn h1 fun u s2 h2 => thn h2 fun c s3 ⟨x, H1, I1, r1, q1⟩ => ?_) h1
  obtain ⟨d, rfl, q⟩ := q1
  cases r1
  exact wpAny_truthy_bool ⟨H1, I1, q⟩
/-- an expression whose value is a bool, as a test -/
theorem pt_val {e : Expr} {t : TE} (h : PE X e t) (he : ∀ whole, isTrue e X.env whole = (do let v ← whole; standAt e.pos; holding [v] (truthy v)) := by intro _; rfl) : PT X e (tB t) := by
  intro pins s σ H Q I hw
  refine isTrue_plain (thn (h pins s σ H _ I hw) fun v s1 ⟨x, H1, I1, r1, q1⟩ => ?_) (he _)
  obtain ⟨d, rfl, q⟩ := q1
  cases r1
  exact wpAny_truthy_bool ⟨H1, I1, q⟩

/-! ### and, or, not -/
variable {tA tB' : TT} {rest : List Expr}
def tAnd (t u : TT) : TT := fun σ H Q => t σ H fun c H1 => if c = true then u σ H1 Q else Q false H1
def tOr (t u : TT) : TT := fun σ H Q => t σ H fun c H1 => if c = true then Q true H1 else u σ H1 Q
def tNot (t : TT) : TT := fun σ H Q => t σ H fun c H1 => Q (!c) H1
theorem pw_and1 (ha : PT X a tA) : PW X (.BoolOp .And [a] pos) tA := by
  intro wh pins s σ H Q I h
  refine isTrue_and (thn (ha pins s σ H Q I h) fun c s1 e => ?_)
  cases c with
  | true => exact isTrue_and_nil e
  | false => exact e
theorem pw_or1 (ha : PT X a tA) : PW X (.BoolOp .Or [a] pos) tA := by
  intro wh pins s σ H Q I h
  refine isTrue_or (thn (ha pins s σ H Q I h) fun c s1 e => ?_)
  cases c with
  | false => exact isTrue_or_nil e
  | true => exact e
theorem pw_and (ha : PT X a tA) (hb : PW X (.BoolOp .And (b :: rest) pos) tB') : PW X (.BoolOp .And (a :: b :: rest) pos) (tAnd tA tB') := by
  intro wh pins s σ H Q I h
  refine isTrue_and (thn (ha pins s σ H _ I h) fun c s1 ⟨H1, I1, q1⟩ => ?_)
  cases c with
  | true => exact hb wh pins s1 σ H1 Q I1 q1
  | false => exact ⟨H1, I1, q1⟩
theorem pw_or (ha : PT X a tA) (hb : PW X (.BoolOp .Or (b :: rest) pos) tB') : PW X (.BoolOp .Or (a :: b :: rest) pos) (tOr tA tB') := by
  intro wh pins s σ H Q I h
  refine isTrue_or (thn (ha pins s σ H _ I h) fun c s1 ⟨H1, I1, q1⟩ => ?_)
  cases c with
  | true => exact ⟨H1, I1, q1⟩
  | false => exact hb wh pins s1 σ H1 Q I1 q1
theorem pt_not (ha : PT X a tA) : PT X (.UnaryOp .Not a pos) (tNot tA) := by
  intro pins s σ H Q I h
  exact isTrue_not (ha pins s σ H (fun c H1 => Q (!c) H1) I h)
/-- .. as values (bools) -/
def tAndV (ta tb : TE) : TE := fun σ H Q => ta σ H fun x H1 => ∃ c, x = .bl c ∧ if c = true then tb σ H1 Q else Q (.bl false) H1
theorem pe_one {op} {t : TE} (h : PE X a t) : PE X (.BoolOp op [a] pos) t := fun pins s σ H Q I hw => BoolOp_one (h pins s σ H Q I hw)
theorem pe_and (ha : PE X a ta) (hb : PE X (.BoolOp .And (b :: rest) pos) tb) : PE X (.BoolOp .And (a :: b :: rest) pos) (tAndV ta tb) := by
  intro pins s σ H Q I h
  refine BoolOp_and (thn (ha pins s σ H _ I h) fun v s1 ⟨x, H1, I1, r1, q1⟩ => ?_)
  obtain ⟨c, rfl, q1⟩ := q1
  cases r1
  refine wpAny_truthy_bool ?_
  cases c with
  | true => exact hb pins s1 σ H1 Q I1 q1
  | false => exact ⟨.bl false, H1, I1, rfl, q1⟩
/-- a if t else b -/
def tIf (t : TT) (ta tb : TE) : TE := fun σ H Q => t σ H fun c H1 => if c = true then ta σ H1 Q else tb σ H1 Q
theorem pe_ifExp {c : Expr} (hc : PT X c tA) (ha : PE X a ta) (hb : PE X b tb) : PE X (.IfExp c a b pos) (tIf tA ta tb) := by
  intro pins s σ H Q I h
  refine wpAny_IfExp (thn (hc pins s σ H _ I h) fun d s1 ⟨H1, I1, q1⟩ => ?_)
  cases d with
  | true => exact ha pins s1 σ H1 Q I1 q1
  | false => exact hb pins s1 σ H1 Q I1 q1
end
end L2

namespace L2
open PySem PySem.Spec PyProof.Rows

/-! ### a list, a tuple that is read: tracked, frozen, or an object of the module -/
def SqL (K : PySem.W.Frag) (H : Hp) (a : Addr) (xs : List V) : Prop :=
  Rd H a (.lst xs) ∨
    ∃ (o : Obj) (its : Array Value) (n : Nat), K.lookup a = some o ∧ o.cls = .type "list" ∧ o.dict = none ∧ o.data = .seq its n ∧ its.size ≤ sizeLine ∧ Vals xs its.toList
def SqT (K : PySem.W.Frag) (H : Hp) (a : Addr) (xs : List V) : Prop :=
  Rd H a (.tup xs) ∨
    ∃ (o : Obj) (its : Array Value) (n : Nat), K.lookup a = some o ∧ o.cls = .type "tuple" ∧ o.data = .seq its n ∧ its.size ≤ sizeLine ∧ Vals xs its.toList
def absV : Value → Option V
  | .none => some .non
  | .bool b => some (.bl b)
  | .int i _ => some (.int i)
  | .str x _ => some (.str x)
  | .bytes b _ => some (.byt b)
  | .float b _ => some (.flt b)
  | .ref a => some (.ref a)
  | .type n => some (.ty n)
  | _ => none
theorem RelV.abs {x : V} {u : Value} (r : RelV x u) : absV u = some x := by
  cases x with
  | non => cases r; rfl
  | bl _ => cases r; rfl
  | int _ => obtain ⟨t, rfl⟩ := r; rfl
  | str _ => obtain ⟨t, rfl⟩ := r; rfl
  | byt _ => obtain ⟨t, rfl⟩ := r; rfl
  | flt _ => obtain ⟨t, rfl⟩ := r; rfl
  | ref _ => cases r; rfl
  | ty _ => cases r; rfl
theorem RelV.inj {x y : V} {u : Value} (r : RelV x u) (q : RelV y u) : x = y := Option.some.inj (r.abs.symm.trans q.abs)
theorem Vals.inj : ∀ {xs ys : List V} {us : List Value}, Vals xs us → Vals ys us → xs = ys
  | _, _, _, .nil, .nil => rfl
  | _, _, _, .cons r t, .cons r' t' => by rw [r.inj r', Vals.inj t t']
section
variable {X : Cx} {pins : List (Addr × Obj)} {σ : St} {H : Hp} {s : Shared} {a : Addr} {xs ys : List V}
theorem SqL.of {K : PySem.W.Frag} (h : H a = some (.lst xs)) : SqL K H a xs := .inl (.inl h)
theorem SqT.of {K : PySem.W.Frag} (h : H a = some (.tup xs)) : SqT K H a xs := .inl (.inl h)
theorem Inv.list (I : Inv X pins σ H s) (h : SqL X.K H a xs) : ∃ its : List Value, Vals xs its ∧ PlainL s.heap a its.toArray ∧ xs.length ≤ sizeLine := by
  rcases h with h | ⟨o, its, n, hk, hc, hd, hs, hz, r⟩
  · obtain ⟨z, its, n, r, e⟩ := h.ok I.hok
    exact ⟨its, r, ⟨_, n, e, rfl, rfl, rfl⟩, z⟩
  · refine ⟨its.toList, r, ⟨o, n, I.kIn a o hk, hc, hd, by simpa using hs⟩, ?_⟩
    have e := r.length
    simp only [Array.length_toList] at e
    omega
theorem Inv.tuple (I : Inv X pins σ H s) (h : SqT X.K H a xs) : ∃ its : List Value, Vals xs its ∧ IsTup s.heap a its.toArray ∧ xs.length ≤ sizeLine := by
  rcases h with h | ⟨o, its, n, hk, hc, hs, hz, r⟩
  · obtain ⟨z, its, r, p⟩ := h.ok I.hok
    exact ⟨its, r, p, z⟩
  · refine ⟨its.toList, r, ⟨o, I.kIn a o hk, hc, n, by simpa using hs⟩, ?_⟩
    have e := r.length
    simp only [Array.length_toList] at e
    omega
theorem Inv.list_inj (I : Inv X pins σ H s) (h : SqL X.K H a xs) (h' : SqL X.K H a ys) : xs = ys := by
  obtain ⟨its, r, ⟨o, n, e, _, _, d⟩, _⟩ := I.list h
  obtain ⟨its', r', ⟨o', n', e', _, _, d'⟩, _⟩ := I.list h'
  rw [e] at e'; cases e'
  rw [d] at d'
  injection d' with d1 _
  have : its = its' := by simpa using congrArg Array.toList d1
  subst this
  exact r.inj r'
end

/-! ### another wish about exceptions -/
abbrev Cx.wish (X : Cx) (E : Value → Shared → Prop) : Cx := { X with xe := E }
/-- no exception leaves -/
abbrev Cx.nox (X : Cx) : Cx := X.wish fun _ _ => False
theorem Cx.Ok.wish {X : Cx} (ok : X.Ok) (E : Value → Shared → Prop) : (X.wish E).Ok :=
  ⟨ok.mod, ok.kind, ok.glob, ok.blt, ok.above, ok.inj, ok.has, ok.cab, ok.hd, ok.frames, ok.stk, ok.exf, ok.bs, ok.bsz, ok.noex, ok.exfs, ok.funs, ok.frf⟩
theorem Cx.Ok.unwish {X : Cx} {E : Value → Shared → Prop} (ok : (X.wish E).Ok) : X.Ok :=
  ⟨ok.mod, ok.kind, ok.glob, ok.blt, ok.above, ok.inj, ok.has, ok.cab, ok.hd, ok.frames, ok.stk, ok.exf, ok.bs, ok.bsz, ok.noex, ok.exfs, ok.funs, ok.frf⟩
section
variable {X : Cx} {pins : List (Addr × Obj)} {σ : St} {H : Hp} {s : Shared} {E : Value → Shared → Prop}
theorem Inv.wish (I : Inv X pins σ H s) (E : Value → Shared → Prop) : Inv (X.wish E) pins σ H s := ⟨I.ok.wish E, I.os, I.bare, I.base, I.loc, I.cell, I.free, I.freeC, I.pin, I.hok, I.len⟩
theorem Inv.unwish (I : Inv (X.wish E) pins σ H s) : Inv X pins σ H s := ⟨I.ok.unwish, I.os, I.bare, I.base, I.loc, I.cell, I.free, I.freeC, I.pin, I.hok, I.len⟩
theorem SP.unwish {D : Ends} {f : Flow} {s' : Shared} (h : SP (X.wish E) pins D f s') : SP X pins D f s' := by
  cases f with
  | next => obtain ⟨σ', H', I, q⟩ := h; exact ⟨σ', H', I.unwish, q⟩
  | brk => obtain ⟨σ', H', I, q⟩ := h; exact ⟨σ', H', I.unwish, q⟩
  | cont => obtain ⟨σ', H', I, q⟩ := h; exact ⟨σ', H', I.unwish, q⟩
  | ret u => obtain ⟨v, σ', H', I, r, q⟩ := h; exact ⟨v, σ', H', I.unwish, r, q⟩
theorem PSs.nox {st : List Stmt} {t : TS} (h : PSs X.nox st t) : PSs X st t := fun pins s σ H D I hw =>
  wpAny_mono (h pins s σ H D (I.wish _) hw) (fun _ _ q => q.unwish) fun _ _ z => False.elim z
end

/-! ### blocks and small statements -/
section
variable {X : Cx} {st : Stmt} {rest : List Stmt} {t u : TS} {e : Expr} {te : TE} {pos : Pos}
def tNext : TS := fun D σ H => D.nx σ H
def tSeq (t u : TS) : TS := fun D σ H => t { D with nx := u D } σ H
theorem pss_nil : PSs X [] tNext := fun _ _ σ H _ I h => wpAny_execs_nil ⟨σ, H, I, h⟩
theorem pss_cons (h1 : PS X st t) (h2 : PSs X rest u) : PSs X (st :: rest) (tSeq t u) := by
  intro pins s σ H D I h
  refine wpAny_execs_cons (thn (h1 pins s σ H { D with nx := u D } I h) fun f s1 q => ?_)
  cases f with
  | next =>
    obtain ⟨σ', H', I', q⟩ := q
    exact h2 pins s1 σ' H' D I' q
  | ret v => exact q
  | brk => exact q
  | cont => exact q
theorem pss_one (h1 : PS X st t) : PSs X [st] t := by
  intro pins s σ H D I h
  refine wpAny_execs_cons (thn (h1 pins s σ H D I h) fun f s1 q => ?_)
  cases f with
  | next => exact wpAny_execs_nil q
  | ret v => exact q
  | brk => exact q
  | cont => exact q
def tCont : TS := fun D σ H => D.ct σ H
theorem ps_continue : PS X (.Continue pos) tCont := fun _ _ σ H _ I h => wpAny_Continue ⟨σ, H, I, h⟩
/-- in a def's body nothing is shown -/
theorem Inv.quiet {pins : List (Addr × Obj)} {σ : St} {H : Hp} {s : Shared} (I : Inv X pins σ H s) : interactive X.env = false := by simp [interactive, I.ok.kind]
/-- an expression whose value is dropped -/
def tDrop (te : TE) : TS := fun D σ H => te σ H fun _ H1 => D.nx σ H1
theorem ps_expr (he : PE X e te) (hs : swapsWith e none pos.line X.env = pure false := by rfl) : PS X (.Expr e pos) (tDrop te) := by
  intro pins s σ H D I h
  exact wpAny_Expr_any (thn (he pins s σ H _ I h) fun v s1 ⟨x, H1, I1, r1, q1⟩ => ⟨σ, H1, I1, q1⟩) I.quiet hs
def tRet (te : TE) : TS := fun D σ H => te σ H D.rt
theorem ps_ret (he : PE X e te) : PS X (.Return (some e) pos) (tRet te) := by
  intro pins s σ H D I h
  exact wpAny_Return_some (thn (he pins s σ H _ I h) fun v s1 ⟨x, H1, I1, r1, q1⟩ => ⟨x, σ, H1, I1, r1, q1⟩)
def tIfS (c : TT) (t u : TS) : TS := fun D σ H => c σ H fun b H1 => if b = true then t D σ H1 else u D σ H1
theorem ps_if {c : Expr} {a b : List Stmt} {tc : TT} (hc : PT X c tc) (ha : PSs X a t) (hb : PSs X b u) : PS X (.If c a b pos) (tIfS tc t u) := by
  intro pins s σ H D I h
  refine wpAny_If (thn (hc pins s σ H _ I h) fun d s1 ⟨H1, I1, q1⟩ => ?_)
  cases d with
  | true => exact ha pins s1 σ H1 D I1 q1
  | false => exact hb pins s1 σ H1 D I1 q1
/-- code that the proof never comes to -/
def tNever : TS := fun _ _ _ => False
theorem ps_never : PS X st tNever := fun _ _ _ _ _ _ h => h.elim
end

/-! ### targets -/
abbrev TG := V → St → Hp → (St → Hp → Prop) → Prop
def PG (X : Cx) (target : Expr) (t : TG) : Prop :=
  ∀ (pins : List (Addr × Obj)) (s : Shared) (σ : St) (H : Hp) (v : V) (u : Value) (Q : St → Hp → Prop), Inv X pins σ H s → RelV v u → t v σ H Q →
    wpAny (model X.prog X.w) X.A (assign target X.env u) (fun _ s' => ∃ σ' H', Inv X pins σ' H' s' ∧ Q σ' H') X.xe s
/-- o[i] = v, by values -/
abbrev TSet := V → V → V → Hp → (Hp → Prop) → Prop
def PSet (X : Cx) (t : TSet) : Prop :=
  ∀ (pins : List (Addr × Obj)) (s : Shared) (σ : St) (H : Hp) (o i v : V) (ov iv u : Value) (Q : Hp → Prop), Inv X pins σ H s → RelV o ov → RelV i iv → RelV v u → t o i v H Q →
    wpAny (model X.prog X.w) X.A (setItem ov iv u) (fun _ s' => ∃ H', Inv X pins σ H' s' ∧ Q H') X.xe s
/-- a op= b, by values -/
abbrev TIp := V → V → Hp → VK → Prop
def PIp (X : Cx) (op : Operator) (t : TIp) : Prop :=
  ∀ (pins : List (Addr × Obj)) (s : Shared) (σ : St) (H : Hp) (x y : V) (v u : Value) (Q : VK), Inv X pins σ H s → RelV x v → RelV y u → t x y H Q →
    wpAny (model X.prog X.w) X.A (inplaceOp op v u) (EP X pins σ Q) X.xe s
section
variable {X : Cx} {pos : Pos}
def gName (i : Nat) : TG := fun v σ H Q => Q (σ.set i (some v)) H
theorem pg_name {i : Nat} {x : Str} (hN : X.N.Nodup) (hi : X.N[i]? = some x) (hx : Loc X.env.scope x) (hf : X.fn x = true ∨ X.env.scope.names.lookup x = some .local := by first | exact .inl rfl | exact .inr rfl | assumption) : PG X (.Name x pos) (gName i) := by
  intro pins s σ H v u Q I r h
  exact wpAny_assign_Name (store_ok I hN hi hx r (fun s' I' => ⟨_, H, I', h⟩) hf)
/-- o[i] = .. -/
def gSub (to ti : TE) (t : TSet) : TG := fun v σ H Q => to σ H fun o H1 => ti σ H1 fun i H2 => t o i v H2 fun H3 => Q σ H3
theorem pg_sub {o i : Expr} {to ti : TE} {t : TSet} (ho : PE X o to) (hi : PE X i ti) (hs : PSet X t)
    (ha : ∀ v, assign (.Subscript o i pos) X.env v = (do
      let ov ← holding [v] (eval o X.env)
      let iv ← holding [v, ov] (eval i X.env)
      standAt pos
      holding [v, ov, iv] (setItem ov iv v)
      release [v, ov, iv] []) := by intro _; rfl) : PG X (.Subscript o i pos) (gSub to ti t) := by
  intro pins s σ H v u Q I r h
  rw [ha]
  refine wpAny_bind (wpAny_holding (thn (ho pins s σ H _ I h) fun ov s1 ⟨x, H1, I1, r1, q1⟩ => ?_))
  refine wpAny_bind (wpAny_holding (thn (hi pins s1 σ H1 _ I1 q1) fun iv s2 ⟨y, H2, I2, r2, q2⟩ => ?_))
  refine wpAny_bind (wpAny_standAt (wpAny_bind (wpAny_holding (thn (hs pins s2 σ H2 x y v ov iv u _ I2 r1 r2 r q2) fun _ s3 ⟨H3, I3, q3⟩ => ?_))))
  exact wpAny_release ⟨σ, H3, I3, q3⟩
/-- target = value -/
def tAsg (te : TE) (g : TG) : TS := fun D σ H => te σ H fun x H1 => g x σ H1 D.nx
theorem ps_asg {tg e : Expr} {te : TE} {g : TG} (he : PE X e te) (hg : PG X tg g) (hs : swapsWithSole [tg] e pos.line X.env = pure false := by rfl) (hw : swappedStores [tg] e X.env = pure none := by rfl)
    (h1 : (assignEach [tg] X.env).map (·.2) = [assign tg X.env] := by rfl) : PS X (.Assign [tg] e pos) (tAsg te g) := by
  intro pins s σ H D I h
  refine wpAny_Assign_stores (thn (he pins s σ H _ I h) fun v s1 ⟨x, H1, I1, r1, q1⟩ => ?_) hs hw
  rw [h1]
  exact thn (hg pins s1 σ H1 x v _ I1 r1 q1) fun _ s2 q => q
/-- name = value -/
theorem ps_set {i : Nat} {x : Str} {e : Expr} {te : TE} {pos' : Pos} (hN : X.N.Nodup) (hi : X.N[i]? = some x) (hx : Loc X.env.scope x) (he : PE X e te) (hs : swapsWith e (some (.Name x pos')) pos.line X.env = pure false := by rfl) (hf : X.fn x = true ∨ X.env.scope.names.lookup x = some .local := by first | exact .inl rfl | exact .inr rfl | assumption) :
    PS X (.Assign [.Name x pos'] e pos) (tAsg te (gName i)) := by
  intro pins s σ H D I h
  refine wpAny_Assign_Name (thn (he pins s σ H _ I h) fun v s1 ⟨y, H1, I1, r1, q1⟩ => ?_) hs
  exact store_ok I1 hN hi hx r1 (fun s2 I2 => ⟨_, H1, I2, q1⟩) hf
/-- name op= e -/
def tAug (i : Nat) (te : TE) (ti : TIp) : TS := fun D σ H => ∃ x, σ[i]? = some (some x) ∧ te σ H fun y H1 => ti x y H1 fun z H2 => D.nx (σ.set i (some z)) H2
theorem ps_aug {i : Nat} {x : Str} {e : Expr} {te : TE} {op : Operator} {ti : TIp} {pos' : Pos} (hN : X.N.Nodup) (hi : X.N[i]? = some x) (hx : Loc X.env.scope x) (he : PE X e te) (ho : PIp X op ti) (hf : X.fn x = true ∨ X.env.scope.names.lookup x = some .local := by first | exact .inl rfl | exact .inr rfl | assumption) :
    PS X (.AugAssign (.Name x pos') op e pos) (tAug i te ti) := by
  intro pins s σ H D I h
  obtain ⟨v, e1, h⟩ := h
  obtain ⟨m, hn, hl⟩ := I.loc
  have vis : Vis X.env.scope x := by rcases hx with k | k; exact .inl k; exact .inr (.inl k)
  obtain ⟨u, r, l⟩ := hl i x v hi e1 vis
  refine wpAny_AugAssign_Name ?_
  have go : wpAny (model X.prog X.w) X.A (eval e X.env) (fun w s₂ => wpAny (model X.prog X.w) X.A (inplaceOp op u w) (fun r s₃ => wpAny (model X.prog X.w) X.A (storeName X.env x r) (fun _ => SP X pins D .next) X.xe s₃) X.xe s₂) X.xe s := by
    refine thn (he pins s σ H _ I h) fun w s1 ⟨y, H1, I1, r1, q1⟩ => ?_
    refine thn (ho pins s1 σ H1 v y u w _ I1 r r1 q1) fun z s2 ⟨zv, H2, I2, r2, q2⟩ => ?_
    exact store_ok I2 hN hi hx r2 (fun s3 I3 => ⟨_, H2, I3, q2⟩) hf
  rcases l with ⟨hk, hm⟩ | ⟨hk, c, hc, hcell⟩
  · exact wpAny_loadName_local I.ok.kind hk hn hm go
  · rcases hk with hk | hk
    · exact wpAny_loadName_cell I.ok.kind hk hc hcell go
    · rcases hx with k | k
      · have : X.env.scope.names.lookup x = some .free := hk
        rw [k] at this; cases this
      · have : X.env.scope.names.lookup x = some .free := hk
        rw [k] at this; cases this
/-- ints -/
def ipI (f : Int → Int → Int) : TIp := fun x y H Q => ∃ i j, x = .int i ∧ y = .int j ∧ Q (.int (f i j)) H
theorem ip_add : PIp X .Add (ipI fun i j => i + j) := by
  intro pins s σ H x y v u Q I r1 r2 h
  obtain ⟨i, j, e1, e2, q⟩ := h
  subst e1; subst e2
  obtain ⟨t, rfl⟩ := r1
  obtain ⟨t', rfl⟩ := r2
  exact iadd_int ⟨.int _, H, I.tok _, ⟨_, rfl⟩, q⟩
end

/-! ### while -/
section
variable {X : Cx} {pos : Pos}
/-- the invariant W with its measure -/
def tWhile (c : TT) (tb : TS) : TS := fun D σ H => ∃ W : Nat → St → Hp → Prop, (∃ m, W m σ H) ∧ ∀ m σ H, W m σ H →
  c σ H fun b H1 => if b = true then ∃ N : St → Hp → Prop, (∀ σ' H', N σ' H' → ∃ m', m' < m ∧ W m' σ' H') ∧ tb { D with nx := N, ct := N, bk := D.nx } σ H1 else D.nx σ H1
theorem ps_while {c : Expr} {body : List Stmt} {tc : TT} {tb : TS} (hp : PassesOwn (model X.prog X.w) X.A X.env X.xe) (hc : PT X c tc) (hb : PSs X body tb) : PS X (.While c body [] pos) (tWhile tc tb) := by
  intro pins s σ H D I h
  obtain ⟨W, ⟨m0, w0⟩, turn⟩ := h
  refine wpAny_While (codeAny_whileLoop (fun n s' => ∃ σ' H', Inv X pins σ' H' s' ∧ W n σ' H') ?_ m0 ⟨σ, H, I, w0⟩)
  rintro n s1 ⟨σ1, H1, I1, w1⟩
  refine wpAny_passesOwn hp (thn (hc pins s1 σ1 H1 _ I1 (turn n σ1 H1 w1)) fun b s2 ⟨H2, I2, q2⟩ => ?_)
  cases b with
  | true =>
    obtain ⟨N, hN, q2⟩ := q2
    rw [if_pos rfl]
    refine wpAny_passesOwn hp (thn (hb pins s2 σ1 H2 _ I2 q2) fun f s3 q3 => ?_)
    cases f with
    | next =>
      obtain ⟨σ3, H3, I3, n3⟩ := q3
      obtain ⟨m', hm, w3⟩ := hN σ3 H3 n3
      exact ⟨m', hm, σ3, H3, I3, w3⟩
    | cont =>
      obtain ⟨σ3, H3, I3, n3⟩ := q3
      obtain ⟨m', hm, w3⟩ := hN σ3 H3 n3
      exact ⟨m', hm, σ3, H3, I3, w3⟩
    | brk => exact q3
    | ret v => exact q3
  | false =>
    rw [if_neg Bool.false_ne_true]
    exact wpAny_execs_nil ⟨σ1, H2, I2, q2⟩
end

/-! ### what a loop or a comprehension walks -/
/-- at turn i: it yields x (the heap may grow), or it stops -/
structure It where
  go : Nat → Hp → Prop
  yld : Nat → Hp → V → Hp → Prop
  stop : Nat → Hp → Prop
/-- the iterator's own objects may turn: they are not the frame's, not pinned, younger than the entry (or a comprehension's own) -/
def FpOk (X : Cx) (pins : List (Addr × Obj)) (H : Hp) (b : Addr) : Prop :=
  H b = none ∧ b ≠ X.env.locals ∧ b ∉ X.fs ∧ (b ∈ X.ex ∨ X.s_0.heap.objs.size ≤ b) ∧ (∀ x c, X.env.cells.lookup x = some c → c ≠ b) ∧ ∀ p ∈ X.pn ++ pins, p.1 ≠ b
theorem Inv.fpOk {X : Cx} {pins : List (Addr × Obj)} {σ : St} {H H' : Hp} {s : Shared} {b : Addr} (I : Inv X pins σ H s) (hb : s.heap.objs.size ≤ b) (hn : H' b = none) : FpOk X pins H' b := by
  refine ⟨hn, Nat.ne_of_gt (Nat.lt_of_lt_of_le I.lt hb), I.nofs hb, .inr (Nat.le_trans I.sz hb), fun x c e z => ?_, fun p hp z => ?_⟩
  · obtain ⟨v, q⟩ := I.cell x c e
    exact absurd (Nat.lt_of_lt_of_le q.lt (by rw [z]; exact hb)) (Nat.lt_irrefl _)
  · exact absurd (Nat.lt_of_lt_of_le (Heap.lt_size (I.pin p hp).1) (by rw [z]; exact hb)) (Nat.lt_irrefl _)
structure Turn (P : Program) (w : World) (K : PySem.W.Frag) (tg : Expr) (J : It) (fp : List Addr) (it : Addr) (tn : Nat → Heap → Prop) : Prop where
  mem : it ∈ fp
  obj : ∀ i h, tn i h → ∀ b ∈ fp, ∃ o, h.get? b = some o ∧ ∀ v, o.data ≠ .cell v
  keep : ∀ i h h', tn i h → (∀ b ∈ fp, ∀ o, h.get? b = some o → h'.get? b = some o) → tn i h'
  item : ∀ (X : Cx), X.prog = P → X.w = w → X.K = K → X.calm = true → ∀ (i : Nat) (pins : List (Addr × Obj)) (s : Shared) (σ : St) (H : Hp) (E : Value → Shared → Prop), Inv X pins σ H s → (∀ b ∈ fp, FpOk X pins H b) → tn i s.heap → J.go i H →
    wpAny (model P w) X.A (pyNext (.ref it)) (fun r s1 => ∃ u, r = some u ∧
      wpAny (model P w) X.A (letOwnedTupleGo tg (.ref it) u) (fun _ s2 => ∃ x H', Inv X pins σ H' s2 ∧ RelV x u ∧ J.yld i H x H' ∧ tn (i + 1) s2.heap ∧ ∀ b ∈ fp, H' b = none) E s1) E s
  done : ∀ (X : Cx), X.prog = P → X.w = w → X.K = K → X.calm = true → ∀ (i : Nat) (pins : List (Addr × Obj)) (s : Shared) (σ : St) (H : Hp) (E : Value → Shared → Prop), Inv X pins σ H s → (∀ b ∈ fp, FpOk X pins H b) → tn i s.heap → J.stop i H →
    wpAny (model P w) X.A (pyNext (.ref it)) (fun r s1 => r = none ∧ Inv X pins σ H s1) E s
  self : ∀ (A : Around) (i : Nat) (s : Shared) (Q : Value → Shared → Prop) (E : Value → Shared → Prop), tn i s.heap → Q (.ref it) s → wpAny (model P w) A (pyIter (.ref it)) Q E s
abbrev TI := St → Hp → (It → Hp → Prop) → Prop
/-- an iterator has come -/
def PIE (X : Cx) (pins : List (Addr × Obj)) (σ : St) (tg : Expr) (R : It → Hp → Prop) (itv : Value) (s2 : Shared) : Prop :=
  ∃ (it : Addr) (fp : List Addr) (tn : Nat → Heap → Prop) (J : It) (H' : Hp), itv = .ref it ∧ Inv X pins σ H' s2 ∧ Turn X.prog X.w X.K tg J fp it tn ∧ tn 0 s2.heap ∧ (∀ b ∈ fp, FpOk X pins H' b) ∧ R J H'
def PI (X : Cx) (tg iter : Expr) (wi : TI) : Prop :=
  ∀ (pins : List (Addr × Obj)) (s : Shared) (σ : St) (H : Hp) (R : It → Hp → Prop), Inv X pins σ H s → wi σ H R →
    wpAny (model X.prog X.w) X.A (eval iter X.env) (fun v s1 => wpAny (model X.prog X.w) X.A (pyIter v) (PIE X pins σ tg R) X.xe s1) X.xe s

/-- the step ahead of the store is nothing for an iterator that keeps no tuple -/
theorem go_of {M : Model} {A : Around} {E : Value → Shared → Prop} {s : Shared} {tg : Expr} {it : Addr} {u : Value} {o : Obj} {n : String} {vs : Array Value} {Q : Unit → Shared → Prop} (ho : s.heap.get? it = some o) (hc : o.cls = .type n) (hd : o.data = .fields vs)
    (hn : ["enumerate", "zip", "dict_itemiterator", "dict_reverseitemiterator", "odict_iterator", "itertools.zip_longest", "itertools.pairwise"].contains n = false) (hQ : Q () s) : wpAny M A (letOwnedTupleGo tg (.ref it) u) Q E s := by
  unfold letOwnedTupleGo
  cases tg <;> first
    | exact wpAny_pure hQ
    | (cases u <;> first
        | exact wpAny_pure hQ
        | (refine wpAny_bind (wpAny_load ho ?_)
           rw [hc, hd]
           show wpAny M A (if (["enumerate", "zip", "dict_itemiterator", "dict_reverseitemiterator", "odict_iterator", "itertools.zip_longest", "itertools.pairwise"].contains n && vs[0]? == some (rawInt _)) = true then _ else _) Q E s
           rw [if_neg (by intro h; rw [hn, Bool.false_and] at h; cases h)]
           exact wpAny_pure hQ))

/-- the list at a, as it stands at each turn (a loop may append to it) -/
def Itl (K : PySem.W.Frag) (a : Addr) : It :=
  ⟨fun i H => ∃ xs x, SqL K H a xs ∧ xs[i]? = some x, fun i H x H' => H' = H ∧ ∀ xs, SqL K H a xs → xs[i]? = some x, fun i H => ∃ xs, SqL K H a xs ∧ xs.length ≤ i⟩
/-- lo, lo + 1, .. (n of them) -/
def Itr (lo : Int) (n : Nat) : It := ⟨fun i _ => i < n, fun i H x H' => H' = H ∧ x = .int (lo + i), fun i _ => n ≤ i⟩
theorem turn_list {P : Program} {w : World} {K : PySem.W.Frag} {tg : Expr} (a it : Addr) : Turn P w K tg (Itl K a) [it] it (fun i h => h.IsListIter it a i) where
  mem := by simp
  obj := fun i h st b hb => by
    have e : b = it := by simpa using hb
    subst e
    obtain ⟨o, e, c, d⟩ := st
    exact ⟨o, e, fun v z => by rw [d] at z; cases z⟩
  keep := fun i h h' st k => st.at fun o e => k it (by simp) o e
  item := by
    intro X hP hw hK hc i pins s σ H E I hf st hg
    subst hP hw hK
    obtain ⟨xs, x, hq, hx⟩ := hg
    obtain ⟨its, rv, p, hz⟩ := I.list hq
    obtain ⟨u, hu, ru⟩ := rv.get hx
    obtain ⟨f0, f1, f2, f3, f4, f5⟩ := hf it (by simp)
    refine wpAny_pyNext_list_item st p.isList (x := u) (by simpa using hu) fun h' st' sb => ?_
    have I1 : Inv X pins σ H { s with heap := h' } := I.turned (t' := s.toks) (fun b o hb e => (sb.2 b hb).trans e) f0 f1 f3 f4 f5
    obtain ⟨o, e, c, d⟩ := id st'
    exact ⟨u, rfl, go_of (s := { s with heap := h' }) e c d (by decide) ⟨x, H, I1, ru, ⟨rfl, fun ys hy => by rw [I.list_inj hy hq]; exact hx⟩, st', fun b hb => (hf b hb).1⟩⟩
  done := by
    intro X hP hw hK hc i pins s σ H E I hf st hg
    subst hP hw hK
    obtain ⟨xs, hq, hx⟩ := hg
    obtain ⟨its, rv, p, hz⟩ := I.list hq
    obtain ⟨f0, f1, f2, f3, f4, f5⟩ := hf it (by simp)
    have hl := rv.length
    exact wpAny_pyNext_list_end (I.ok.hd hc) st p.isList (by simp; omega) fun h' eb => ⟨rfl, I.turned (t' := s.toks) (fun b o hb e => eb b o hb e) f0 f1 f3 f4 f5⟩
  self := fun _ _ _ _ _ st h => wpAny_pyIter_listiter st h
theorem turn_range {P : Program} {w : World} {K : PySem.W.Frag} {tg : Expr} (it : Addr) (lo : Int) (n : Nat) : Turn P w K tg (Itr lo n) [it] it (fun i h => IsRangeIter h it (lo + (i : Nat) * 1) ((n : Int) - (i : Nat)) 1) where
  mem := by simp
  obj := fun i h st b hb => by
    have e : b = it := by simpa using hb
    subst e
    exact ⟨_, st, fun v z => by
      have z' : Data.fields _ = Data.cell v := z
      cases z'⟩
  keep := fun i h h' st k => k it (by simp) _ st
  item := by
    intro X hP hw hK hc i pins s σ H E I hf st hg
    subst hP hw hK
    obtain ⟨f0, f1, f2, f3, f4, f5⟩ := hf it (by simp)
    have W := Walks.range (prog := X.prog) (w := X.w) (I.ok.hd hc) it lo 1 n
    refine W.item i s _ _ hg st fun v h' tk hv st' kk => ?_
    obtain ⟨t, rfl⟩ := hv
    have I1 : Inv X pins σ H { s with heap := h', toks := tk } := I.turned (fun b o hb e => kk b o (by simpa using hb) e) f0 f1 f3 f4 f5
    refine ⟨_, rfl, go_of (s := { s with heap := h', toks := tk }) (n := "range_iterator") st' rfl rfl (by decide) ⟨.int (lo + i), H, I1, ⟨t, ?_⟩, ⟨rfl, rfl⟩, st', fun b hb => (hf b hb).1⟩⟩
    rw [Int.mul_one]
  done := by
    intro X hP hw hK hc i pins s σ H E I hf st hg
    subst hP hw hK
    obtain ⟨f0, f1, f2, f3, f4, f5⟩ := hf it (by simp)
    exact wpAny_pyNext_range_end (I.ok.hd hc) st (by have : n ≤ i := hg; omega) fun h' eb => ⟨rfl, I.turned (t' := s.toks) (fun b o hb e => eb b o hb e) f0 f1 f3 f4 f5⟩
  self := fun _ _ _ _ _ st h => wpAny_pyIter_rangeiter st h
end L2

namespace L2
open PySem PySem.Spec PyProof.Rows
section
variable {X : Cx} {tg : Expr}
def iList (K : PySem.W.Frag) (tl : TE) : TI := fun σ H R => tl σ H fun x H1 => ∃ a, x = .ref a ∧ (∃ xs, SqL K H1 a xs) ∧ R (Itl K a) H1
theorem pi_list {l : Expr} {tl : TE} (hl : PE X l tl) : PI X tg l (iList X.K tl) := by
  intro pins s σ H R I h
  refine thn (hl pins s σ H _ I h) fun v s1 ⟨x, H1, I1, r1, q1⟩ => ?_
  obtain ⟨a, e, ⟨xs, hq⟩, q⟩ := q1
  subst e
  cases r1
  obtain ⟨its, rv, p, hz⟩ := I1.list hq
  refine wpAny_pyIter_list p.isList ?_
  refine ⟨s1.heap.objs.size, [s1.heap.objs.size], _, _, H1, rfl, I1.kept (t' := s1.toks) fun b o e => Heap.get?_push_of_some _ e, turn_list a _, ⟨_, Heap.get?_push_size _ rfl, rfl, rfl⟩, fun b hb => ?_, q⟩
  have e : b = s1.heap.objs.size := by simpa using hb
  subst e
  exact I1.fpOk (Nat.le_refl _) (I1.hok.fresh (Nat.le_refl _))
/-- a range object just made, walked -/
theorem range_it {pins : List (Addr × Obj)} {σ : St} {H : Hp} {s : Shared} {R : It → Hp → Prop} {E : Value → Shared → Prop} {lo hi : Int} {t u v : Tok} {tk : Nat} (I : Inv X pins σ H s) (h1 : -(2 ^ 62) ≤ lo) (h2 : lo < 2 ^ 62) (h3 : -(2 ^ 62) ≤ hi) (h4 : hi < 2 ^ 62)
    (q : R (Itr lo (hi - lo).toNat) H) : wpAny (model X.prog X.w) X.A (pyIter (.ref s.heap.objs.size)) (PIE X pins σ tg R) E { s with heap := s.heap.push { cls := .type "range", data := .fields #[.int lo t, .int hi u, .int 1 v] }, toks := tk } := by
  refine wpAny_pyIter_range (IsRange.new ..) (small_one h1 h2 h3 h4) ?_
  have I1 : Inv X pins σ H { s with heap := s.heap.push { cls := .type "range", data := .fields #[.int lo t, .int hi u, .int 1 v] }, toks := tk } := I.kept fun b o e => Heap.get?_push_of_some _ e
  refine ⟨(s.heap.push { cls := .type "range", data := .fields #[.int lo t, .int hi u, .int 1 v] }).objs.size, [(s.heap.push { cls := .type "range", data := .fields #[.int lo t, .int hi u, .int 1 v] }).objs.size], _, _, H, rfl,
    I1.kept (t' := tk) fun b o e => Heap.get?_push_of_some _ e, turn_range _ lo (hi - lo).toNat, ?_, fun b hb => ?_, q⟩
  · have e1 : lo + ((0 : Nat) : Int) * 1 = lo := by simp
    have e2 : (((hi - lo).toNat : Nat) : Int) - ((0 : Nat) : Int) = Builtin.Range.rangeSize lo hi 1 := by rw [rangeSize_one]; split <;> omega
    show IsRangeIter _ _ (lo + ((0 : Nat) : Int) * 1) ((((hi - lo).toNat : Nat) : Int) - ((0 : Nat) : Int)) 1
    rw [e1, e2]
    exact Heap.get?_push_size _ rfl
  · have e : b = (s.heap.push { cls := .type "range", data := .fields #[.int lo t, .int hi u, .int 1 v] }).objs.size := by simpa using hb
    subst e
    exact I1.fpOk (Nat.le_refl _) (I1.hok.fresh (Nat.le_refl _))
def iRng1 (ta : TA) : TI := fun σ H R => ta σ H fun vs H1 => ∃ j : Int, vs = [.int j] ∧ -(2 ^ 62) ≤ j ∧ j < 2 ^ 62 ∧ R (Itr 0 j.toNat) H1
def iRng2 (ta : TA) : TI := fun σ H R => ta σ H fun vs H1 => ∃ i j : Int, vs = [.int i, .int j] ∧ (-(2 ^ 62) ≤ i ∧ i < 2 ^ 62 ∧ -(2 ^ 62) ≤ j ∧ j < 2 ^ 62) ∧ R (Itr i (j - i).toNat) H1
theorem pi_range1 {a : Expr} {ta : TA} {p pos : Pos} (hg : Gl X "range") (hm : X.mg "range" = none) (ha : PA X [a] ta) (hs : starEach [a] X.env = [(false, eval a X.env)] := by rfl) : PI X tg (.Call (.Name "range" p) [a] [] pos) (iRng1 ta) := by
  intro pins s σ H R I h
  refine Call_ (ld_blt I hg hm boot_range (PyProof.Rows.callWith_type1 (thn (ha pos pins s σ H _ I h) fun us s1 ⟨vs, H1, I1, r1, q1⟩ => ?_) hs rfl))
  obtain ⟨j, e, q1, q2, q⟩ := q1
  subst e
  cases r1 with
  | cons r rr =>
    cases rr
    obtain ⟨t, rfl⟩ := r
    exact call_range_1 (range_it I1 (by omega) (by omega) q1 q2 (by simpa using q))
theorem pi_range2 {a b : Expr} {ta : TA} {p pos : Pos} (hg : Gl X "range") (hm : X.mg "range" = none) (ha : PA X [a, b] ta) (hs : starEach [a, b] X.env = [(false, eval a X.env), (false, eval b X.env)] := by rfl) (hs2 : starEach [b] X.env = [(false, eval b X.env)] := by rfl) :
    PI X tg (.Call (.Name "range" p) [a, b] [] pos) (iRng2 ta) := by
  intro pins s σ H R I h
  refine Call_ (ld_blt I hg hm boot_range (PyProof.Rows.callWith_type1 (thn (ha pos pins s σ H _ I h) fun us s1 ⟨vs, H1, I1, r1, q1⟩ => ?_) (by rw [hs, hs2]) (by rw [hs2]; rfl)))
  obtain ⟨i, j, e, ⟨q1, q2, q3, q4⟩, q⟩ := q1
  subst e
  cases r1 with
  | cons r rr =>
    cases rr with
    | cons r' rr =>
      cases rr
      obtain ⟨t, rfl⟩ := r
      obtain ⟨t', rfl⟩ := r'
      exact call_range_2 (range_it I1 q1 q2 q3 q4 q)

/-! ### for -/
/-- W: the invariant by the turn and a measure; N: what the body is to reach -/
def tFor (wi : TI) (g : TG) (tb : TS) : TS := fun D σ H => wi σ H fun J H1 => ∃ W : Nat → Nat → St → Hp → Prop, (∃ m, W 0 m σ H1) ∧ ∀ i m σ H, W i m σ H →
  (J.stop i H ∧ D.nx σ H) ∨ (J.go i H ∧ ∃ N : St → Hp → Prop, (∀ σ' H', N σ' H' → ∃ m', m' < m ∧ W (i + 1) m' σ' H') ∧ ∀ x H', J.yld i H x H' → g x σ H' fun σ2 H2 => tb { D with nx := N, ct := N, bk := D.nx } σ2 H2)
/-- the records at fp as they stand -/
def pinsAt (fp : List Addr) (h : Heap) : List (Addr × Obj) := fp.filterMap fun b => (h.get? b).map fun o => (b, o)
theorem mem_pinsAt {fp : List Addr} {h : Heap} {b : Addr} {o : Obj} (hb : b ∈ fp) (e : h.get? b = some o) : (b, o) ∈ pinsAt fp h := List.mem_filterMap.mpr ⟨b, hb, by rw [e]; rfl⟩
theorem of_pinsAt {fp : List Addr} {h : Heap} {p : Addr × Obj} (hp : p ∈ pinsAt fp h) : p.1 ∈ fp ∧ h.get? p.1 = some p.2 := by
  obtain ⟨b, hb, e⟩ := List.mem_filterMap.mp hp
  cases q : h.get? b with
  | none => rw [q] at e; cases e
  | some o =>
    rw [q] at e
    have e' : (b, o) = p := Option.some.inj e
    subst e'
    exact ⟨hb, q⟩
theorem Inv.pinned {pins : List (Addr × Obj)} {σ : St} {H : Hp} {s : Shared} {fp : List Addr} (I : Inv X pins σ H s) (hf : ∀ b ∈ fp, FpOk X pins H b) (ho : ∀ b ∈ fp, ∃ o, s.heap.get? b = some o ∧ ∀ v, o.data ≠ .cell v) : Inv X (pins ++ pinsAt fp s.heap) σ H s :=
  I.pins_of fun p hp => (List.mem_append.mp hp).elim (fun z => I.pin p (List.mem_append_right _ z)) fun z => by
    obtain ⟨hb, e⟩ := of_pinsAt z
    obtain ⟨f0, f1, f2, _⟩ := hf p.1 hb
    obtain ⟨o, e', d⟩ := ho p.1 hb
    rw [e] at e'; cases e'
    exact ⟨e, f0, f1, f2, d⟩
theorem Inv.unpinned {pins pl : List (Addr × Obj)} {σ : St} {H : Hp} {s : Shared} (I : Inv X (pins ++ pl) σ H s) : Inv X pins σ H s := I.pins_of fun p hp => I.pin p (List.mem_append_right _ (List.mem_append_left _ hp))
theorem ps_for {iter : Expr} {body : List Stmt} {wi : TI} {g : TG} {tb : TS} {pos : Pos} (hp : PassesOwn (model X.prog X.w) X.A X.env X.xe) (hc : X.calm = true) (hi : PI X tg iter wi) (hg : PG X tg g) (hb : PSs X body tb)
    (hs : ∀ x, foldedSetIterable iter X.env x = pure x := by intro _; rfl) : PS X (.For tg iter body [] pos) (tFor wi g tb) := by
  intro pins s σ H D I h
  refine wpAny_For (thn (hi pins s σ H _ I h) fun v s1 h1 => thn h1 fun itv s2 h2 => ?_) hs
  obtain ⟨it, fp, tn, J, H2, e, I2, T, st2, f2, W, ⟨m0, w0⟩, turn⟩ := h2
  subst e
  -- what stays true of the iterator's objects through the loop
  have stat : ∀ {H' : Hp}, (∀ b ∈ fp, H' b = none) → ∀ b ∈ fp, FpOk X pins H' b := fun hn b hb => ⟨hn b hb, (f2 b hb).2⟩
  refine codeAny_forLoop_any (fun n s' => ∃ i σ' H', Inv X pins σ' H' s' ∧ tn i s'.heap ∧ (∀ b ∈ fp, H' b = none) ∧ W i n σ' H') ?_ m0 ⟨0, σ, H2, I2, st2, fun b hb => (f2 b hb).1, w0⟩
  rintro n s3 ⟨i, σ3, H3, I3, st3, fr3, w3⟩
  rcases turn i n σ3 H3 w3 with ⟨stop, qn⟩ | ⟨go, N, hN, step⟩
  · refine wpAny_passesOwn hp (thn (T.done X rfl rfl rfl hc i pins s3 σ3 H3 X.xe I3 (stat fr3) st3 stop) fun r s4 ⟨hr, I4⟩ => ?_)
    subst hr
    exact wpAny_execs_nil ⟨σ3, H3, I4, qn⟩
  · refine wpAny_passesOwn hp (thn (T.item X rfl rfl rfl hc i pins s3 σ3 H3 X.xe I3 (stat fr3) st3 go) fun r s4 ⟨u, hr, h4⟩ => ?_)
    subst hr
    refine wpAny_passesOwn hp (thn h4 fun _ s5 ⟨x, H5, I5, r5, y5, st5, fr5⟩ => ?_)
    have I5' := I5.pinned (stat fr5) (T.obj _ _ st5)
    refine wpAny_passesOwn hp (thn (hg _ s5 σ3 H5 x u _ I5' r5 (step x H5 y5)) fun _ s6 ⟨σ6, H6, I6, q6⟩ => ?_)
    refine wpAny_passesOwn hp (thn (hb _ s6 σ6 H6 _ I6 q6) fun f s7 q7 => ?_)
    have again : ∀ {σ7 : St} {H7 : Hp}, Inv X (pins ++ pinsAt fp s5.heap) σ7 H7 s7 → N σ7 H7 → ∃ m, m < n ∧ ∃ i σ' H', Inv X pins σ' H' s7 ∧ tn i s7.heap ∧ (∀ b ∈ fp, H' b = none) ∧ W i m σ' H' := fun {σ7 H7} I7 n7 => by
      obtain ⟨m', hm, w7⟩ := hN σ7 H7 n7
      refine ⟨m', hm, i + 1, σ7, H7, I7.unpinned, T.keep _ _ _ st5 fun b hb o e => (I7.pin (b, o) (List.mem_append_right _ (List.mem_append_right _ (mem_pinsAt hb e)))).1, fun b hb => ?_, w7⟩
      obtain ⟨o, e, d⟩ := T.obj _ _ st5 b hb
      exact (I7.pin (b, o) (List.mem_append_right _ (List.mem_append_right _ (mem_pinsAt hb e)))).2.1
    cases f with
    | next => obtain ⟨σ7, H7, I7, n7⟩ := q7; exact again I7 n7
    | cont => obtain ⟨σ7, H7, I7, n7⟩ := q7; exact again I7 n7
    | brk => obtain ⟨σ7, H7, I7, q7⟩ := q7; exact ⟨σ7, H7, I7.unpinned, q7⟩
    | ret v => obtain ⟨x7, σ7, H7, I7, r7, q7⟩ := q7; exact ⟨x7, σ7, H7, I7.unpinned, r7, q7⟩
end

/-! ### the forms one uses -/
/-- over a list that the body leaves as it is -/
theorem for_list {K : PySem.W.Frag} {a : Addr} {xs : List V} {g : TG} {tb : TS} {D : Ends} {σ : St} {H : Hp} (Pv : Nat → St → Hp → Prop) (h0 : Pv 0 σ H) (hl : ∀ i σ H, i ≤ xs.length → Pv i σ H → SqL K H a xs)
    (hs : ∀ i x σ H, xs[i]? = some x → Pv i σ H → g x σ H fun σ2 H2 => tb { D with nx := Pv (i + 1), ct := Pv (i + 1), bk := D.nx } σ2 H2) (hd : ∀ σ H, Pv xs.length σ H → D.nx σ H) :
    ∃ W : Nat → Nat → St → Hp → Prop, (∃ m, W 0 m σ H) ∧ ∀ i m σ H, W i m σ H →
      ((Itl K a).stop i H ∧ D.nx σ H) ∨ ((Itl K a).go i H ∧ ∃ N : St → Hp → Prop, (∀ σ' H', N σ' H' → ∃ m', m' < m ∧ W (i + 1) m' σ' H') ∧ ∀ x H', (Itl K a).yld i H x H' → g x σ H' fun σ2 H2 => tb { D with nx := N, ct := N, bk := D.nx } σ2 H2) := by
  refine ⟨fun i m σ H => m = xs.length - i ∧ i ≤ xs.length ∧ Pv i σ H, ⟨xs.length, by simp, Nat.zero_le _, h0⟩, ?_⟩
  rintro i m σ H ⟨rfl, hi, p⟩
  have q := hl i σ H hi p
  by_cases hlt : i < xs.length
  · refine .inr ⟨⟨xs, xs[i], q, by simp [hlt]⟩, Pv (i + 1), fun σ' H' p' => ⟨xs.length - (i + 1), by omega, rfl, hlt, p'⟩, fun x H' y => ?_⟩
    obtain ⟨e, y⟩ := y
    subst e
    exact hs i x σ _ (y xs q) p
  · have e : i = xs.length := by omega
    subst e
    exact .inl ⟨⟨xs, q, Nat.le_refl _⟩, hd σ H p⟩
theorem for_range {lo : Int} {n : Nat} {g : TG} {tb : TS} {D : Ends} {σ : St} {H : Hp} (Pv : Nat → St → Hp → Prop) (h0 : Pv 0 σ H)
    (hs : ∀ i σ H, i < n → Pv i σ H → g (.int (lo + i)) σ H fun σ2 H2 => tb { D with nx := Pv (i + 1), ct := Pv (i + 1), bk := D.nx } σ2 H2) (hd : ∀ σ H, Pv n σ H → D.nx σ H) :
    ∃ W : Nat → Nat → St → Hp → Prop, (∃ m, W 0 m σ H) ∧ ∀ i m σ H, W i m σ H →
      ((Itr lo n).stop i H ∧ D.nx σ H) ∨ ((Itr lo n).go i H ∧ ∃ N : St → Hp → Prop, (∀ σ' H', N σ' H' → ∃ m', m' < m ∧ W (i + 1) m' σ' H') ∧ ∀ x H', (Itr lo n).yld i H x H' → g x σ H' fun σ2 H2 => tb { D with nx := N, ct := N, bk := D.nx } σ2 H2) := by
  refine ⟨fun i m σ H => m = n - i ∧ i ≤ n ∧ Pv i σ H, ⟨n, by simp, Nat.zero_le _, h0⟩, ?_⟩
  rintro i m σ H ⟨rfl, hi, p⟩
  by_cases hlt : i < n
  · refine .inr ⟨hlt, Pv (i + 1), fun σ' H' p' => ⟨n - (i + 1), by omega, rfl, hlt, p'⟩, fun x H' y => ?_⟩
    obtain ⟨e, y⟩ := y
    subst e y
    exact hs i σ _ hlt p
  · have e : i = n := by omega
    subst e
    exact .inl ⟨Nat.le_refl _, hd σ H p⟩
end L2

namespace L2
open PySem PySem.Spec PyProof.Rows

abbrev R2 := V → V → Hp → VK → Prop
/-- a two-place operation on values: f is binaryOp op, inplaceOp op or compareOp op -/
def OpR (X : Cx) (f : Value → Value → Sem Value) (r : R2) : Prop :=
  ∀ (pins : List (Addr × Obj)) (s : Shared) (σ : St) (H : Hp) (x y : V) (v u : Value) (Q : VK), Inv X pins σ H s → RelV x v → RelV y u → r x y H Q →
    wpAny (model X.prog X.w) X.A (f v u) (EP X pins σ Q) X.xe s
/-- a one-place operation -/
def UnR (X : Cx) (f : Value → Sem Value) (r : V → Hp → VK → Prop) : Prop :=
  ∀ (pins : List (Addr × Obj)) (s : Shared) (σ : St) (H : Hp) (x : V) (v : Value) (Q : VK), Inv X pins σ H s → RelV x v → r x H Q →
    wpAny (model X.prog X.w) X.A (f v) (EP X pins σ Q) X.xe s
/-- a call of a value that is known (a builtin, a type) with values -/
def CallR (X : Cx) (f : Value) (r : List V → Hp → VK → Prop) : Prop :=
  ∀ (pins : List (Addr × Obj)) (s : Shared) (σ : St) (H : Hp) (xs : List V) (us : List Value) (Q : VK), Inv X pins σ H s → Vals xs us → r xs H Q →
    wpAny (model X.prog X.w) X.A (call f us) (EP X pins σ Q) X.xe s
/-- a value's truth -/
def TruR (X : Cx) (r : V → Hp → (Bool → Hp → Prop) → Prop) : Prop :=
  ∀ (pins : List (Addr × Obj)) (s : Shared) (σ : St) (H : Hp) (x : V) (v : Value) (Q : Bool → Hp → Prop), Inv X pins σ H s → RelV x v → r x H Q →
    wpAny (model X.prog X.w) X.A (truthy v) (TP X pins σ Q) X.xe s

def tOp (r : R2) (ta tb : TE) : TE := fun σ H Q => ta σ H fun x H1 => tb σ H1 fun y H2 => r x y H2 Q
def tUn (r : V → Hp → VK → Prop) (ta : TE) : TE := fun σ H Q => ta σ H fun x H1 => r x H1 Q
/-- ints in, under C, and a value out -/
def rI (C : Int → Int → Prop) (g : Int → Int → V) : R2 := fun x y H Q => ∃ i j, x = .int i ∧ y = .int j ∧ C i j ∧ Q (g i j) H
def rI0 (g : Int → Int → V) : R2 := fun x y H Q => ∃ i j, x = .int i ∧ y = .int j ∧ Q (g i j) H
def rU (g : Int → V) : V → Hp → VK → Prop := fun x H Q => ∃ i, x = .int i ∧ Q (g i) H

section
variable {X : Cx} {a b c : Expr} {ta tb tc : TE} {pos : Pos}

theorem binT (ha : PE X a ta) (hb : PE X b tb) {pins : List (Addr × Obj)} {s : Shared} {σ : St} {H : Hp} {R : V → V → Hp → Prop} (I : Inv X pins σ H s)
    (h : ta σ H fun x H1 => tb σ H1 fun y H2 => R x y H2) {Q : Value → Shared → Prop} {f : Value → Value → Sem Value}
    (hf : ∀ v u s2 x y H2, Inv X pins σ H2 s2 → RelV x v → RelV y u → R x y H2 → wpAny (model X.prog X.w) X.A (f v u) Q X.xe s2) :
    wpAny (model X.prog X.w) X.A (eval a X.env) (fun v s₁ => wpAny (model X.prog X.w) X.A (eval b X.env) (fun u s₂ => wpAny (model X.prog X.w) X.A (f v u) Q X.xe s₂) X.xe s₁) X.xe s := by
  refine thn (ha pins s σ H _ I h) fun v s1 ⟨x, H1, I1, r1, q1⟩ => ?_
  refine thn (hb pins s1 σ H1 _ I1 q1) fun u s2 ⟨y, H2, I2, r2, q2⟩ => ?_
  exact hf v u s2 x y H2 I2 r1 r2 q2

theorem pe_op {op : Operator} {r : R2} (ho : OpR X (binaryOp op) r) (ha : PE X a ta) (hb : PE X b tb) : PE X (.BinOp a op b pos) (tOp r ta tb) := by
  intro pins s σ H Q I h
  exact wpAny_BinOp (binT ha hb I h fun v u s2 x y H2 I2 rx ry q => ho pins s2 σ H2 x y v u Q I2 rx ry q)
theorem pe_un {op : UnaryOp} {r : V → Hp → VK → Prop} (ho : UnR X (unaryOp op) r) (ha : PE X a ta) : PE X (.UnaryOp op a pos) (tUn r ta) := by
  intro pins s σ H Q I h
  exact UnaryOp_ (thn (ha pins s σ H _ I h) fun v s1 ⟨x, H1, I1, r1, q1⟩ => ho pins s1 σ H1 x v Q I1 r1 q1)
/-! ### ints -/
theorem opI {f : Value → Value → Sem Value} {C : Int → Int → Prop} {g : Int → Int → Int}
    (rule : ∀ (i j : Int) (t u : Tok) (s : Shared) (Q : Value → Shared → Prop) (E : Value → Shared → Prop), C i j → Q (.int (g i j) s.toks) { s with toks := s.toks + 1 } → wpAny (model X.prog X.w) X.A (f (.int i t) (.int j u)) Q E s) :
    OpR X f (rI C fun i j => .int (g i j)) := by
  intro pins s σ H x y v u Q I rx ry h
  obtain ⟨i, j, rfl, rfl, hc, q⟩ := h
  obtain ⟨t, rfl⟩ := rx
  obtain ⟨t', rfl⟩ := ry
  exact rule i j t t' s _ _ hc ⟨.int (g i j), H, I.tok _, ⟨_, rfl⟩, q⟩
theorem opI0 {f : Value → Value → Sem Value} {g : Int → Int → Int}
    (rule : ∀ (i j : Int) (t u : Tok) (s : Shared) (Q : Value → Shared → Prop) (E : Value → Shared → Prop), Q (.int (g i j) s.toks) { s with toks := s.toks + 1 } → wpAny (model X.prog X.w) X.A (f (.int i t) (.int j u)) Q E s) :
    OpR X f (rI0 fun i j => .int (g i j)) := by
  intro pins s σ H x y v u Q I rx ry h
  obtain ⟨i, j, rfl, rfl, q⟩ := h
  obtain ⟨t, rfl⟩ := rx
  obtain ⟨t', rfl⟩ := ry
  exact rule i j t t' s _ _ ⟨.int (g i j), H, I.tok _, ⟨_, rfl⟩, q⟩
theorem opB0 {f : Value → Value → Sem Value} {g : Int → Int → Bool}
    (rule : ∀ (i j : Int) (t u : Tok) (s : Shared) (Q : Value → Shared → Prop) (E : Value → Shared → Prop), Q (.bool (g i j)) s → wpAny (model X.prog X.w) X.A (f (.int i t) (.int j u)) Q E s) :
    OpR X f (rI0 fun i j => .bl (g i j)) := by
  intro pins s σ H x y v u Q I rx ry h
  obtain ⟨i, j, rfl, rfl, q⟩ := h
  obtain ⟨t, rfl⟩ := rx
  obtain ⟨t', rfl⟩ := ry
  exact rule i j t t' s _ _ ⟨.bl (g i j), H, I, rfl, q⟩

def CDiv (i j : Int) : Prop := 0 < j ∧ j < 1073741824
def CMul (i j : Int) : Prop := (-(2 ^ 64) < i ∧ i < 2 ^ 64) ∨ (-(2 ^ 64) < j ∧ j < 2 ^ 64)
theorem CMul.ok {i j : Int} (h : CMul i j) : IntMulOk i j := by
  rcases h with ⟨h1, h2⟩ | ⟨h1, h2⟩
  · exact .of_left (intBits_le_64 h1 h2)
  · exact .of_right (intBits_le_64 h1 h2)
theorem op_add : OpR X (binaryOp .Add) (rI0 fun i j => .int (i + j)) := opI0 fun _ _ _ _ _ _ _ q => add_int q
theorem op_sub : OpR X (binaryOp .Sub) (rI0 fun i j => .int (i - j)) := opI0 fun _ _ _ _ _ _ _ q => sub_int q
theorem op_mul : OpR X (binaryOp .Mult) (rI CMul fun i j => .int (i * j)) := opI fun _ _ _ _ _ _ _ hc q => mul_int q hc.ok
/-- // by a positive divisor -/
theorem op_fdiv : OpR X (binaryOp .FloorDiv) (rI CDiv fun i j => .int (i / j)) := opI fun i j _ _ _ _ _ hc q => by
  have h1 : (0 : Int) < j := hc.1
  have h2 : j < 1073741824 := hc.2
  exact floordiv_int (by omega) (by rw [Int.fdiv_eq_ediv_of_nonneg i (by omega)]; exact q) (.inl (PyProof.noPylong_small (by omega)))
theorem unI {f : Value → Sem Value} {g : Int → Int}
    (rule : ∀ (i : Int) (t : Tok) (s : Shared) (Q : Value → Shared → Prop) (E : Value → Shared → Prop), Q (.int (g i) s.toks) { s with toks := s.toks + 1 } → wpAny (model X.prog X.w) X.A (f (.int i t)) Q E s) :
    UnR X f (rU fun i => .int (g i)) := by
  intro pins s σ H x v Q I rx h
  obtain ⟨i, rfl, q⟩ := h
  obtain ⟨t, rfl⟩ := rx
  exact rule i t s _ _ ⟨.int (g i), H, I.tok _, ⟨_, rfl⟩, q⟩
theorem un_neg : UnR X (unaryOp .USub) (rU fun i => .int (-i)) := unI fun _ _ _ _ _ q => neg_int q
/-! ### bools among ints: n += (a < b) -/
end

/-! ### comparisons -/
/-- the scalars that == tells apart as data does -/
def scal : V → V → Bool
  | .non, .non => true | .non, .int _ => true | .int _, .non => true | .non, .bl _ => true | .bl _, .non => true | .non, .str _ => true | .str _, .non => true
  | .int _, .int _ => true | .bl _, .bl _ => true | .str _, .str _ => true | .byt _, .byt _ => true
  | .int _, .str _ => true | .str _, .int _ => true | .bl _, .str _ => true | .str _, .bl _ => true
  | _, _ => false
def rEq : R2 := fun x y H Q => scal x y = true ∧ Q (.bl (decide (x = y))) H
def rNe : R2 := fun x y H Q => scal x y = true ∧ Q (.bl (!decide (x = y))) H

theorem dec_int {i j : Int} : decide (V.int i = V.int j) = (i == j) := by
  rw [Bool.eq_iff_iff]
  simp
theorem dec_bl {i j : Bool} : decide (V.bl i = V.bl j) = (i == j) := by
  rw [Bool.eq_iff_iff]
  simp
theorem dec_str {i j : Str} : decide (V.str i = V.str j) = (i == j) := by
  rw [Bool.eq_iff_iff]
  simp
theorem dec_byt {i j : Array UInt8} : decide (V.byt i = V.byt j) = (i.toList == j.toList) := by
  rw [Bool.eq_iff_iff]
  cases i
  cases j
  simp

section
variable {X : Cx} {a b c : Expr} {ta tb tc : TE} {pos : Pos}
theorem fin_bl {pins : List (Addr × Obj)} {σ : St} {H : Hp} {s : Shared} {Q : VK} {k k' : Bool} (I : Inv X pins σ H s) (q : Q (.bl k) H) (e : k = k') : EP X pins σ Q (.bool k') s := by
  subst e
  exact ⟨.bl k, H, I, rfl, q⟩
theorem op_eq : OpR X (compareOp .Eq) rEq := by
  intro pins s σ H x y v u Q I rx ry h
  obtain ⟨hs, q⟩ := h
  cases x with
  | non =>
    cases rx
    cases y with
    | non => cases ry; exact PySem.EqNone.eq_none_none (fin_bl I q (by simp))
    | bl j => cases ry; exact PySem.EqNone.eq_none_bool (fin_bl I q (by simp))
    | int j => obtain ⟨t', rfl⟩ := ry; exact PySem.EqNone.eq_none_int (fin_bl I q (by simp))
    | str j => obtain ⟨t', rfl⟩ := ry; exact PySem.EqNone.eq_none_str (fin_bl I q (by simp))
    | _ => exact absurd (show false = true from hs) Bool.false_ne_true
  | bl i =>
    cases rx
    cases y with
    | non => cases ry; exact PySem.EqNone.eq_bool_none (fin_bl I q (by simp))
    | bl j => cases ry; exact eq_bool (fin_bl I q dec_bl)
    | str j => obtain ⟨t', rfl⟩ := ry; exact PySem.EqMixed.eq_bool_str (fin_bl I q (by simp))
    | _ => exact absurd (show false = true from hs) Bool.false_ne_true
  | int i =>
    obtain ⟨t, rfl⟩ := rx
    cases y with
    | non => cases ry; exact PySem.EqNone.eq_int_none (fin_bl I q (by simp))
    | int j => obtain ⟨t', rfl⟩ := ry; exact eq_int (fin_bl I q dec_int)
    | str j => obtain ⟨t', rfl⟩ := ry; exact PySem.EqMixed.eq_int_str (fin_bl I q (by simp))
    | _ => exact absurd (show false = true from hs) Bool.false_ne_true
  | str i =>
    obtain ⟨t, rfl⟩ := rx
    cases y with
    | non => cases ry; exact PySem.EqNone.eq_str_none (fin_bl I q (by simp))
    | bl j => cases ry; exact PySem.EqMixed.eq_str_bool (fin_bl I q (by simp))
    | int j => obtain ⟨t', rfl⟩ := ry; exact PySem.EqMixed.eq_str_int (fin_bl I q (by simp))
    | str j => obtain ⟨t', rfl⟩ := ry; exact eq_str (fin_bl I q dec_str)
    | _ => exact absurd (show false = true from hs) Bool.false_ne_true
  | byt i =>
    obtain ⟨t, rfl⟩ := rx
    cases y with
    | byt j => obtain ⟨t', rfl⟩ := ry; exact PySem.W.eq_bytes (fin_bl I q dec_byt)
    | _ => exact absurd (show false = true from hs) Bool.false_ne_true
  | _ => cases y <;> exact absurd (show false = true from hs) Bool.false_ne_true
theorem op_ne : OpR X (compareOp .NotEq) rNe := by
  intro pins s σ H x y v u Q I rx ry h
  obtain ⟨hs, q⟩ := h
  cases x with
  | non =>
    cases rx
    cases y with
    | non => cases ry; exact PySem.EqNone.ne_none_none (fin_bl I q (by simp))
    | bl j => cases ry; exact PySem.EqNone.ne_none_bool (fin_bl I q (by simp))
    | int j => obtain ⟨t', rfl⟩ := ry; exact PySem.EqNone.ne_none_int (fin_bl I q (by simp))
    | str j => obtain ⟨t', rfl⟩ := ry; exact PySem.EqNone.ne_none_str (fin_bl I q (by simp))
    | _ => exact absurd (show false = true from hs) Bool.false_ne_true
  | bl i =>
    cases rx
    cases y with
    | non => cases ry; exact PySem.EqNone.ne_bool_none (fin_bl I q (by simp))
    | bl j => cases ry; exact ne_bool (fin_bl I q (congrArg not dec_bl))
    | str j => obtain ⟨t', rfl⟩ := ry; exact PySem.EqMixed.ne_bool_str (fin_bl I q (by simp))
    | _ => exact absurd (show false = true from hs) Bool.false_ne_true
  | int i =>
    obtain ⟨t, rfl⟩ := rx
    cases y with
    | non => cases ry; exact PySem.EqNone.ne_int_none (fin_bl I q (by simp))
    | int j => obtain ⟨t', rfl⟩ := ry; exact ne_int (fin_bl I q (congrArg not dec_int))
    | str j => obtain ⟨t', rfl⟩ := ry; exact PySem.EqMixed.ne_int_str (fin_bl I q (by simp))
    | _ => exact absurd (show false = true from hs) Bool.false_ne_true
  | str i =>
    obtain ⟨t, rfl⟩ := rx
    cases y with
    | non => cases ry; exact PySem.EqNone.ne_str_none (fin_bl I q (by simp))
    | bl j => cases ry; exact PySem.EqMixed.ne_str_bool (fin_bl I q (by simp))
    | int j => obtain ⟨t', rfl⟩ := ry; exact PySem.EqMixed.ne_str_int (fin_bl I q (by simp))
    | str j => obtain ⟨t', rfl⟩ := ry; exact ne_str (fin_bl I q (congrArg not dec_str))
    | _ => exact absurd (show false = true from hs) Bool.false_ne_true
  | byt i =>
    obtain ⟨t, rfl⟩ := rx
    cases y with
    | byt j => obtain ⟨t', rfl⟩ := ry; exact PySem.W.ne_bytes (fin_bl I q (congrArg not dec_byt))
    | _ => exact absurd (show false = true from hs) Bool.false_ne_true
  | _ => cases y <;> exact absurd (show false = true from hs) Bool.false_ne_true

theorem op_lt : OpR X (compareOp .Lt) (rI0 fun i j => .bl (decide (i < j))) := opB0 fun _ _ _ _ _ _ _ q => lt_int q
theorem op_le : OpR X (compareOp .LtE) (rI0 fun i j => .bl (decide (i ≤ j))) := opB0 fun _ _ _ _ _ _ _ q => le_int q
theorem op_gt : OpR X (compareOp .Gt) (rI0 fun i j => .bl (decide (j < i))) := opB0 fun _ _ _ _ _ _ _ q => gt_int q
theorem op_ge : OpR X (compareOp .GtE) (rI0 fun i j => .bl (decide (j ≤ i))) := opB0 fun _ _ _ _ _ _ _ q => ge_int q
theorem nomark (b : Expr) {op : CmpOp} (h : op ≠ .In := by decide) (h2 : op ≠ .NotIn := by decide) : behindInMarks op b = false := by
  have e1 : (op == CmpOp.In) = false := by cases op <;> first | rfl | exact absurd rfl h
  have e2 : (op == CmpOp.NotIn) = false := by cases op <;> first | rfl | exact absurd rfl h2
  cases b <;> simp [behindInMarks, e1, e2]
/-- a comparison as a value; hm: nomark b, or (for in, not in) by with_unfolding_all rfl -/
theorem pe_cmpR {op : CmpOp} {r : R2} (ho : OpR X (compareOp op) r) (ha : PE X a ta) (hb : PE X b tb) (hm : behindInMarks op b = false) : PE X (.Compare a [op] [b] pos) (tOp r ta tb) := by
  intro pins s σ H Q I h
  exact wpAny_Compare1 (binT ha hb I h fun v u s2 x y H2 I2 rx ry q => ho pins s2 σ H2 x y v u Q I2 rx ry q) hm
/-- a reading of a value as a test -/
def tTest (t : TE) : TT := fun σ H Q => t σ H fun x H' => ∃ k, x = .bl k ∧ Q k H'
theorem pt_cmpR {op : CmpOp} {r : R2} (ho : OpR X (compareOp op) r) (ha : PE X a ta) (hb : PE X b tb) (hm : behindInMarks op b = false) : PT X (.Compare a [op] [b] pos) (tTest (tOp r ta tb)) := by
  intro pins s σ H Q I h
  refine wpAny_isTrue_Compare1 (thn (ha pins s σ H _ I h) fun v s1 ⟨x, H1, I1, r1, q1⟩ => thn (hb pins s1 σ H1 _ I1 q1) fun u s2 ⟨y, H2, I2, r2, q2⟩ =>
    thn (ho pins s2 σ H2 x y v u _ I2 r1 r2 q2) fun c s3 ⟨z, H3, I3, r3, k, e, q3⟩ => ?_) hm
  subst e
  cases r3
  exact wpAny_truthy_bool ⟨H3, I3, q3⟩
/-! ### truth -/
/-- a value's truth by the abstract heap -/
def TruV (K : PySem.W.Frag) (x : V) (H : Hp) (k : Bool) : Prop :=
  match x with
  | .non => k = false
  | .bl b => k = b
  | .int i => k = (i != 0)
  | .str y => y.length ≤ sizeLine ∧ k = ((y.length : Int) != 0)
  | .byt y => y.size ≤ sizeLine ∧ k = ((y.size : Int) != 0)
  | .ref p => (∃ xs, SqL K H p xs ∧ k = !xs.isEmpty) ∨ (∃ xs, SqT K H p xs ∧ k = !xs.isEmpty) ∨ ∃ kvs, H p = some (.dK kvs) ∧ k = !kvs.isEmpty
  | _ => False
theorem isEmpty_kv {κ : Type} {kvs : List (κ × V)} {vs : List (κ × Value)} (r : KV kvs vs) : (!vs.isEmpty) = !kvs.isEmpty := by
  cases r <;> rfl
theorem isEmpty_of {xs : List V} {its : List Value} (r : Vals xs its) : (!its.toArray.isEmpty) = !xs.isEmpty := by
  cases r <;> simp
theorem line63 : (sizeLine : Nat) < 2 ^ 63 := by rw [sizeLine_eq]; decide
theorem tru_ok : TruR X (fun x H Q => ∃ k, TruV X.K x H k ∧ Q k H) := by
  intro pins s σ H x v Q I rx h
  obtain ⟨k, e, q⟩ := h
  have hl := line63
  have hs : sizeLine = 16777216 := sizeLine_eq
  cases x with
  | non =>
    cases rx
    have e' : k = false := e
    subst e'
    exact truthy_none ⟨H, I, q⟩
  | bl b =>
    cases rx
    have e' : k = b := e
    subst e'
    exact wpAny_truthy_bool ⟨H, I, q⟩
  | int i =>
    obtain ⟨t, rfl⟩ := rx
    have e' : k = (i != 0) := e
    subst e'
    exact PySem.P.truthy_int ⟨H, I, q⟩
  | str y =>
    obtain ⟨t, rfl⟩ := rx
    obtain ⟨hy, e'⟩ : y.length ≤ sizeLine ∧ k = ((y.length : Int) != 0) := e
    subst e'
    exact PySem.P.truthy_str (by omega) ⟨H, I.tok _, q⟩
  | byt y =>
    obtain ⟨t, rfl⟩ := rx
    obtain ⟨hy, e'⟩ : y.size ≤ sizeLine ∧ k = ((y.size : Int) != 0) := e
    subst e'
    exact PySem.W.truthy_bytes (by omega) ⟨H, I.tok _, q⟩
  | ref p =>
    cases rx
    have e' : (∃ xs, SqL X.K H p xs ∧ k = !xs.isEmpty) ∨ (∃ xs, SqT X.K H p xs ∧ k = !xs.isEmpty) ∨ ∃ kvs, H p = some (.dK kvs) ∧ k = !kvs.isEmpty := e
    rcases e' with ⟨xs, hx, e'⟩ | ⟨xs, hx, e'⟩ | ⟨kvs, hx, e'⟩
    · subst e'
      obtain ⟨its, r, pl, hz⟩ := I.list hx
      have hlen := r.length
      exact wpAny_truthy_list pl.isList (by simp only [List.size_toArray]; omega) ⟨H, I.tok _, by rw [isEmpty_of r]; exact q⟩
    · subst e'
      obtain ⟨its, r, pl, hz⟩ := I.tuple hx
      have hlen := r.length
      exact truthy_tuple pl (by simp only [List.size_toArray]; omega) ⟨H, I.tok _, by rw [isEmpty_of r]; exact q⟩
    · subst e'
      obtain ⟨hz, hS, vs, r, m⟩ : kvs.length ≤ sizeLine ∧ (p == sysModules) = false ∧ ∃ vs, KV kvs vs ∧ s.heap.DictOf (mixKind X.prog X.w) p vs := I.hok p _ hx
      have hlen : kvs.length = vs.length := Paired.length r
      exact wpAny_truthy_dict hS m (by omega) ⟨H, I.tok _, by rw [isEmpty_kv r]; exact q⟩
  | _ => exact (show False from e).elim
/-- any expression whose test is its value's truth (a name, a call, a subscript, a field ..: he by fun _ => rfl) -/
theorem pt_truth (ha : PE X a ta) (he : ∀ whole, isTrue a X.env whole = (do let v ← whole; standAt a.pos; holding [v] (truthy v))) :
    PT X a (fun σ H Q => ta σ H fun x H' => ∃ k, TruV X.K x H' k ∧ Q k H') := by
  intro pins s σ H Q I h
  exact isTrue_plain (thn (ha pins s σ H _ I h) fun v s1 ⟨x, H1, I1, r1, q1⟩ => tru_ok pins s1 σ H1 x v Q I1 r1 q1) (he _)

/-! ### strs and bytes -/
/-! ### scalar builtins, by CallR -/
theorem vals1 {x : V} {us : List Value} (r : Vals [x] us) : ∃ u, us = [u] ∧ RelV x u := by
  cases r with
  | cons r1 r2 => cases r2; exact ⟨_, rfl, r1⟩
theorem vals2 {x y : V} {us : List Value} (r : Vals [x, y] us) : ∃ u w', us = [u, w'] ∧ RelV x u ∧ RelV y w' := by
  cases r with
  | cons r1 r2 =>
    cases r2 with
    | cons r3 r4 => cases r4; exact ⟨_, _, rfl, r1, r3⟩
theorem call_max2 (hc : X.calm = true) : CallR X (.builtin "max") (fun xs H Q => ∃ i j, xs = [.int i, .int j] ∧ Q (.int (if j > i then j else i)) H) := by
  intro pins s σ H xs us Q I r h
  obtain ⟨i, j, rfl, q⟩ := h
  obtain ⟨u, w', rfl, ⟨t, rfl⟩, ⟨t', rfl⟩⟩ := vals2 r
  refine max_two_ints (I.ok.hd hc) fun h' tk k => ⟨_, H, I.kept k, ?_, q⟩
  by_cases hj : j > i
  · rw [if_pos hj, if_pos hj]; exact ⟨_, rfl⟩
  · rw [if_neg hj, if_neg hj]; exact ⟨_, rfl⟩
theorem call_min2 (hc : X.calm = true) : CallR X (.builtin "min") (fun xs H Q => ∃ i j, xs = [.int i, .int j] ∧ Q (.int (if j < i then j else i)) H) := by
  intro pins s σ H xs us Q I r h
  obtain ⟨i, j, rfl, q⟩ := h
  obtain ⟨u, w', rfl, ⟨t, rfl⟩, ⟨t', rfl⟩⟩ := vals2 r
  refine min_two_ints (I.ok.hd hc) fun h' tk k => ⟨_, H, I.kept k, ?_, q⟩
  by_cases hj : j < i
  · rw [if_pos hj, if_pos hj]; exact ⟨_, rfl⟩
  · rw [if_neg hj, if_neg hj]; exact ⟨_, rfl⟩
end
end L2

namespace L2
open PySem PySem.Spec PyProof.Rows

/-! ### an instance, its attributes a map -/
structure ObjM (h : Heap) (x dx C : Addr) (mA : Str → Option Value) : Prop where
  obj : h.get? x = some (PySem.W.instObj C dx)
  ns : h.Ns1 dx mA
  ne : dx ≠ x

theorem lookIn_ns {h : Heap} {dx : Addr} {mA : Str → Option Value} (n : h.Ns1 dx mA) : ∃ od, h.get? dx = some od ∧ ∀ name, PySem.W.lookIn name od = some (mA name) := by
  obtain ⟨o, es, ep, ho, hd, hk, _, hm⟩ := n
  refine ⟨o, ho, fun name => ?_⟩
  have e := hm name
  unfold nsFind findBy at e
  rw [← Array.find?_toList] at e
  unfold PySem.W.lookIn
  rw [hd]
  dsimp only
  split
  · rename_i y q
    rw [q] at e
    exact congrArg some e
  · rename_i q
    rw [q] at e
    have a : es.toList.any (·.refKey) = false := by
      rw [List.any_eq_false]
      intro y hy
      obtain ⟨z, t, hkey⟩ := hk y (Array.mem_toList_iff.mp hy)
      simp [DictEntry.refKey, hkey]
    have a' : ¬ es.toList.any (·.refKey) = true := by rw [a]; exact Bool.false_ne_true
    rw [if_neg a']
    exact congrArg some e

theorem ObjM.look {h : Heap} {x dx C : Addr} {mA : Str → Option Value} (I : ObjM h x dx C mA) : ∃ od, PySem.W.InstAt h x (PySem.W.instObj C dx) C (some od) ∧ ∀ name, PySem.W.lookIn name od = some (mA name) :=
  let ⟨od, ho, hl⟩ := lookIn_ns I.ns
  ⟨od, ⟨I.obj, rfl, rfl, ho⟩, hl⟩

section
variable {prog : Program} {w : World} {A : Around} {E : Value → Shared → Prop} {s : Shared} {K : PySem.W.Frag} {x dx C f : Addr} {mA : Str → Option Value} {name : Str} {v : Value}

theorem get_map {expr : Bool} {Q : Value → Shared → Prop} (X : K.In s.heap) (I : ObjM s.heap x dx C mA) (hg : PySem.W.plainGet K C name = true) (hh : PySem.W.hasDictIn K C = true)
    (ha : PySem.W.findIn K (.ref C) name = some none) (hv : mA name = some v) (hv' : PySem.W.handedIn v = true) (h : Q v { s with toks := s.toks + 1 }) :
    wpAny (model prog w) A (getAttr (.ref x) name expr) Q E s := by
  obtain ⟨od, J, hl⟩ := I.look
  exact PySem.W.get_value X J (PySem.W.plainGet_of hg).1 (PySem.W.findObj_own hh ha rfl (by rw [hl, hv])) hv' h

theorem get_meth {pl : Sem Bool} {Q : Value × List Value → Shared → Prop} (X : K.In s.heap) (I : ObjM s.heap x dx C mA) (hg : PySem.W.plainGet K C name = true)
    (hf : PySem.W.findIn K (.ref C) name = some (some (.ref f))) (ht : PySem.W.isFn K (.ref f) = true) (hv : mA name = none) (h : Q (.ref f, [.ref x]) s) :
    wpAny (model prog w) A (getMethod (.ref x) name pl) Q E s := by
  obtain ⟨od, J, hl⟩ := I.look
  exact PySem.W.method_fn X J (PySem.W.plainGet_of hg).1 (PySem.W.plainGet_of hg).2 hf (beq_iff_eq.mp ht) (by show (PySem.W.lookIn name od).map (·.isSome) = some false; rw [hl, hv]; rfl) h

theorem set_map {ns : List Str} {Q : Unit → Shared → Prop} (X : K.In s.heap) (I : ObjM s.heap x dx C mA)
    (hs : PySem.W.findIn K (.ref C) "__setattr__" = some (some (.builtin "object.__setattr__"))) (hp : PySem.W.plainOver K C = true) (ht : PySem.W.takerIn K C name = some none) (hh : PySem.W.hasDictIn K C = true)
    (hw : PySem.Within mA ns) (hsz : ns.length ≤ sizeLine)
    (h : ∀ h', ObjM h' x dx C (fun y => if y = name then some v else mA y) → Heap.SameBut dx s.heap h' → Q () { s with heap := h', toks := s.toks + 2 }) :
    wpAny (model prog w) A (setAttr (.ref x) name v) Q E s := by
  obtain ⟨od, J, hl⟩ := I.look
  refine PySem.W.set_plain X J hs (PySem.W.osa_open (s := { s with toks := s.toks + 1 }) (r := none) X J hp ht fun b => ?_)
  obtain ⟨cd, hc, hd'⟩ := PySem.W.any_some hh
  have hx : s.heap.get? x = some ⟨.ref C, some dx, .plain, #[]⟩ := I.obj
  refine wpAny_bind (wpAny_pure (wpAny_bind (wpAny_bind (wpAny_loadPart hx (wpAny_bind (PySem.W.Looks.here (s := { s with toks := s.toks + 1 }) (PySem.W.looks_clsIn X hc) ?_))))))
  rw [hd']
  refine wpAny_pure (a := some dx) (wpAny_bind (wpAny_pure (wpAny_bind ?_)))
  refine wpAny_nsSet1 (s := { s with toks := s.toks + 1 }) I.ns fun h' hn2 hs2 => ?_
  obtain ⟨oD, esD, epD, hoD, hdD, hcD⟩ := hn2.count (PySem.Within.cons name v hw)
  refine wpAny_bind (wpAny_lookBehind hoD (by rw [hdD]; exact pastItsLine_dict (Nat.le_trans hcD (by rw [List.length_cons]; omega))) ?_)
  exact wpAny_pure (h _ ⟨(hs2.2 _ (Ne.symm I.ne)).trans I.obj, hn2, I.ne⟩ hs2)

/-- C(..): the dict at the heap's end, the instance behind it; then its __init__ -/
theorem make_map {R : Result → Shared → Prop} {vs : List Value} {kw : List (Str × Value)} (X : K.In s.heap) (hm : PySem.W.makesIn K C = true)
    (hi : PySem.W.findIn K (.ref C) "__init__" = some (some (.ref f))) (hf : PySem.W.typeIn K (.ref f) = some (.type "function"))
    (h : codeAny (model prog w) (A.under (.builtin "type.__call__" ⟨.ref C :: vs, kw⟩)) (.call (.ref f) ⟨.ref (s.heap.objs.size + 1) :: vs, kw⟩) (PySem.W.InitBack (s.heap.objs.size + 1) R)
      { s with heap := (s.heap.push PySem.W.emptyDict).push (PySem.W.instObj C s.heap.objs.size) }) :
    codeAny (model prog w) A (.call (.ref C) ⟨vs, kw⟩) R s := by
  obtain ⟨hh, g, d, t, os⟩ := s
  exact PySem.W.make_core (PySem.W.makes_of X hm) (PySem.W.looks_findIn X hi) (fun self => PySem.W.bind_fn X self hf) (.inl rfl) h
end

/-! ### the attributes as a list of pairs -/
def putF (f : Str) (v : V) : List (Str × V) → List (Str × V)
  | [] => [(f, v)]
  | (g, x) :: r => if g = f then (g, v) :: r else (g, x) :: putF f v r
theorem lookup_putF (f g : Str) (v : V) : ∀ fs : List (Str × V), (putF f v fs).lookup g = if g = f then some v else fs.lookup g
  | [] => by
    show List.lookup g [(f, v)] = _
    by_cases h : g = f
    · have hb : (g == f) = true := beq_iff_eq.mpr h
      simp only [List.lookup, hb, if_pos h]
    · have hb : (g == f) = false := beq_eq_false_iff_ne.mpr h
      simp only [List.lookup, hb, if_neg h]
  | (k, x) :: r => by
    have ih := lookup_putF f g v r
    rw [show putF f v ((k, x) :: r) = (if k = f then (k, v) :: r else (k, x) :: putF f v r) from rfl]
    by_cases hk : k = f
    · rw [if_pos hk]
      by_cases h : g = k
      · have hb : (g == k) = true := beq_iff_eq.mpr h
        simp only [List.lookup, hb, if_pos (h.trans hk)]
      · have hb : (g == k) = false := beq_eq_false_iff_ne.mpr h
        simp only [List.lookup, hb, if_neg (fun e : g = f => h (e.trans hk.symm))]
    · rw [if_neg hk]
      by_cases h : g = k
      · have hb : (g == k) = true := beq_iff_eq.mpr h
        simp only [List.lookup, hb, if_neg (fun e : g = f => hk (h.symm.trans e))]
      · have hb : (g == k) = false := beq_eq_false_iff_ne.mpr h
        simp only [List.lookup, hb]
        exact ih
theorem keys_putF (f : Str) (v : V) : ∀ fs : List (Str × V), f ∈ (putF f v fs).map (·.1) ∧ ∀ g, g ∈ fs.map (·.1) → g ∈ (putF f v fs).map (·.1)
  | [] => ⟨by simp [putF], fun g h => by simp at h⟩
  | (k, x) :: r => by
    obtain ⟨i1, i2⟩ := keys_putF f v r
    rw [show putF f v ((k, x) :: r) = (if k = f then (k, v) :: r else (k, x) :: putF f v r) from rfl]
    by_cases hk : k = f
    · rw [if_pos hk]
      subst hk
      exact ⟨by simp, fun g h => by simpa using h⟩
    · rw [if_neg hk]
      refine ⟨?_, fun g h => ?_⟩
      · rw [List.map_cons]
        exact List.mem_cons_of_mem _ i1
      · rw [List.map_cons] at h ⊢
        rcases List.mem_cons.mp h with e | e
        · exact List.mem_cons.mpr (.inl e)
        · exact List.mem_cons_of_mem _ (i2 g e)
theorem length_putF (f : Str) (v : V) : ∀ fs : List (Str × V), (putF f v fs).length ≤ fs.length + 1
  | [] => by simp [putF]
  | (k, x) :: r => by
    have ih := length_putF f v r
    rw [show putF f v ((k, x) :: r) = (if k = f then (k, v) :: r else (k, x) :: putF f v r) from rfl]
    by_cases hk : k = f
    · rw [if_pos hk, List.length_cons, List.length_cons]; omega
    · rw [if_neg hk, List.length_cons, List.length_cons]; omega

theorem RelO.some_of {v : V} {o : Option Value} (r : RelO (some v) o) : ∃ u, o = some u ∧ RelV v u := by
  cases o with
  | none => exact (show False from r).elim
  | some u => exact ⟨u, rfl, r⟩
theorem RelO.none_of {o : Option Value} (r : RelO none o) : o = none := by
  cases o with
  | none => rfl
  | some u => exact (show False from r).elim
theorem handed_of {v : V} {u : Value} (r : RelV v u) : PySem.W.handedIn u = true := by
  cases v with
  | non => cases (show u = Value.none from r); rfl
  | bl b => cases (show u = Value.bool b from r); rfl
  | int i => obtain ⟨t, e⟩ := (show ∃ t, u = Value.int i t from r); cases e; rfl
  | str x => obtain ⟨t, e⟩ := (show ∃ t, u = Value.str x t from r); cases e; rfl
  | byt b => obtain ⟨t, e⟩ := (show ∃ t, u = Value.bytes b t from r); cases e; rfl
  | flt b => obtain ⟨t, e⟩ := (show ∃ t, u = Value.float b t from r); cases e; rfl
  | ref a => cases (show u = Value.ref a from r); rfl
  | ty n => cases (show u = Value.type n from r); rfl

section
variable {P : Program} {w : World} {H H' : Hp} {h h' : Heap} {a C dx : Addr} {fs fs' : List (Str × V)}
theorem ins_get (hok : HOk P w H h) (e : H a = some (.ins C dx fs)) : ∃ mA, ObjM h a dx C mA ∧ (∀ f, RelO (fs.lookup f) (mA f)) ∧ PySem.Within mA (fs.map (·.1)) ∧ fs.length ≤ 1000 ∧ H dx = some (.own a) := by
  obtain ⟨d, z, ne, ob, mA, n, r, q⟩ := (show ObjOk P w H h a (.ins C dx fs) from hok a _ e)
  exact ⟨mA, ⟨ob, n, ne⟩, r, q, z, d⟩
end

/-! ### what of the text a class must have -/
structure Cls (K : PySem.W.Frag) (C : Addr) : Prop where
  pg : PySem.W.plainGet K C Str.empty = true
  hd : PySem.W.hasDictIn K C = true
  po : PySem.W.plainOver K C = true
  sa : PySem.W.findIn K (.ref C) "__setattr__" = some (some (.builtin "object.__setattr__"))
theorem Cls.get {K : PySem.W.Frag} {C : Addr} (c : Cls K C) (f : Str) : PySem.W.plainGet K C f = true := c.pg
/-- no class of it has the name -/
def NoAttr (K : PySem.W.Frag) (C : Addr) (f : Str) : Prop := PySem.W.findIn K (.ref C) f = some none
theorem NoAttr.taker {K : PySem.W.Frag} {C : Addr} {f : Str} (n : NoAttr K C f) : PySem.W.takerIn K C f = some none := by
  unfold PySem.W.takerIn
  rw [show PySem.W.findIn K (.ref C) f = some none from n]
  rfl
/-- a method: a plain def of the class or of one above it -/
structure Meth (K : PySem.W.Frag) (C : Addr) (m : Str) (f : Addr) : Prop where
  at_ : PySem.W.findIn K (.ref C) m = some (some (.ref f))
  fn : PySem.W.isFn K (.ref f) = true
  kp : PySem.W.keepIn K (.ref f) = true

section
variable {X : Cx} {pins : List (Addr × Obj)} {σ : St} {H : Hp} {s : Shared} {a C dx : Addr} {fs : List (Str × V)} {f : Str} {v : V} {A : Around} {E : Value → Shared → Prop}

theorem getattr_ok {b : Bool} {Q : Value → Shared → Prop} (I : Inv X pins σ H s) (e : H a = some (.ins C dx fs)) (c : Cls X.K C) (n : NoAttr X.K C f) (l : fs.lookup f = some v)
    (h : ∀ u s', Inv X pins σ H s' → RelV v u → Q u s') : wpAny (model X.prog X.w) A (getAttr (.ref a) f b) Q E s := by
  obtain ⟨mA, O, r, _, _, _⟩ := ins_get I.hok e
  obtain ⟨u, hu, ru⟩ := RelO.some_of (v := v) (o := mA f) (by rw [← l]; exact r f)
  exact get_map I.kIn O (c.get f) c.hd n hu (handed_of ru) (h u _ (I.tok _) ru)

theorem getmeth_ok {m : Str} {g : Addr} {pl : Sem Bool} {Q : Value × List Value → Shared → Prop} (I : Inv X pins σ H s) (e : H a = some (.ins C dx fs)) (c : Cls X.K C) (k : Meth X.K C m g) (l : fs.lookup m = none)
    (h : Q (.ref g, [.ref a]) s) : wpAny (model X.prog X.w) A (getMethod (.ref a) m pl) Q E s := by
  obtain ⟨mA, O, r, _, _, _⟩ := ins_get I.hok e
  have hn : mA m = none := RelO.none_of (by rw [← l]; exact r m)
  exact get_meth I.kIn O (c.get m) k.at_ k.fn hn h

theorem setattr_ok {y : V} {u : Value} {Q : Unit → Shared → Prop} (I : Inv X pins σ H s) (e : H a = some (.ins C dx fs)) (c : Cls X.K C) (n : NoAttr X.K C f) (hl : fs.length < 1000) (ry : RelV y u)
    (h : ∀ s', Inv X pins σ (upd H a (.ins C dx (putF f y fs))) s' → Q () s') : wpAny (model X.prog X.w) A (setAttr (.ref a) f u) Q E s := by
  obtain ⟨mA, O, r, wi, _, ho⟩ := ins_get I.hok e
  have hz : (fs.map (·.1)).length ≤ sizeLine := by rw [List.length_map, sizeLine_eq]; omega
  refine set_map I.kIn O c.sa c.po n.taker c.hd wi hz fun h' O' sb => h _ ?_
  have hd : ∃ o, h'.get? dx = some o := let ⟨o, _, _, e', _⟩ := O'.ns; ⟨o, e'⟩
  refine I.write (x := a) (e := dx) (by rw [e]; exact True.intro) (.inr ho) (fun b q hb z => (sb.2 b hb).trans z) hd ?_
  refine ⟨by rw [upd_ne O.ne]; exact ho, ?_, O.ne, O'.obj, _, O'.ns, fun g => ?_, fun g hg => ?_⟩
  · have := length_putF f y fs; omega
  · show RelO ((putF f y fs).lookup g) (if g = f then some u else mA g)
    rw [lookup_putF]
    by_cases q : g = f
    · rw [if_pos q, if_pos q]; exact ry
    · rw [if_neg q, if_neg q]; exact r g
  · by_cases q : g = f
    · rw [q]; exact (keys_putF f y fs).1
    · refine (keys_putF f y fs).2 g (wi g fun z => hg ?_)
      show (if g = f then some u else mA g) = none
      rw [if_neg q]; exact z

/-- a new instance, tracked, without attributes -/
theorem Inv.made (I : Inv X pins σ H s) : Inv X pins σ (upd (upd H s.heap.objs.size (.own (s.heap.objs.size + 1))) (s.heap.objs.size + 1) (.ins C s.heap.objs.size []))
    { s with heap := (s.heap.push PySem.W.emptyDict).push (PySem.W.instObj C s.heap.objs.size) } := by
  have e1 : (s.heap.push PySem.W.emptyDict).get? s.heap.objs.size = some PySem.W.emptyDict := Heap.get?_push_size s.heap rfl
  have e2 : ((s.heap.push PySem.W.emptyDict).push (PySem.W.instObj C s.heap.objs.size)).get? (s.heap.objs.size + 1) = some (PySem.W.instObj C s.heap.objs.size) := by
    have := Heap.get?_push_size (s.heap.push PySem.W.emptyDict) (o := PySem.W.instObj C s.heap.objs.size) rfl
    rwa [Heap.size_push] at this
  have e3 : (s.heap.push PySem.W.emptyDict).Ns s.heap.objs.size (fun _ => none) := ⟨PySem.W.emptyDict, #[], _, e1, rfl, (fun e he => absurd he (by simp)), fun _ => rfl⟩
  have I1 := I.laid (a := s.heap.objs.size) (o := .own (s.heap.objs.size + 1)) (h' := s.heap.push PySem.W.emptyDict) (t' := s.toks) (fun b u q => Heap.get?_push_of_some _ q) (Nat.le_refl _) ⟨_, e1⟩
  refine I1.laid (a := s.heap.objs.size + 1) (o := .ins C s.heap.objs.size []) (t' := s.toks) (fun b u q => Heap.get?_push_of_some _ q) (Nat.le_of_eq (Heap.size_push _ _)) ?_
  have ne : s.heap.objs.size ≠ s.heap.objs.size + 1 := Nat.ne_of_lt (Nat.lt_succ_self _)
  refine ⟨by rw [upd_ne ne, upd_same], Nat.zero_le _, ne, e2, fun _ => none, (Heap.Ns1.of_empty e3).at fun o q => Heap.get?_push_of_some _ q, fun _ => True.intro, fun y hy => absurd rfl hy⟩

/-- e.f where nothing but the object is asked: through attributeBase (super) and the last hold -/
theorem attr_of {prog : Program} {w : World} {env : Env} {e : Expr} {f : Str} {pos : Pos} {s : Shared} {Q : Value → Shared → Prop} (hb : attributeBase e f env (eval e env) = eval e env)
    (h : wpAny (model prog w) A (eval e env) (fun o s₁ => wpAny (model prog w) A (getAttr o f true) Q E s₁) E s) : wpAny (model prog w) A (eval (.Attribute e f pos) env) Q E s :=
  Attribute_any_ h (by rw [arm_eval_Attribute, hb])
end

/-! ### readings and rules -/
/-- e.f, an attribute of the instance -/
def tFld (K : PySem.W.Frag) (ta : TE) (f : Str) : TE := fun σ H Q => ta σ H fun x H1 => ∃ a C dx fs v, x = .ref a ∧ H1 a = some (.ins C dx fs) ∧ Cls K C ∧ NoAttr K C f ∧ fs.lookup f = some v ∧ Q v H1
/-- e.f = value -/
def sFld (K : PySem.W.Frag) (ta tv : TE) (f : Str) : TS := fun D σ H => tv σ H fun y H1 => ta σ H1 fun x H2 => ∃ a C dx fs, x = .ref a ∧ H2 a = some (.ins C dx fs) ∧ Cls K C ∧ NoAttr K C f ∧ fs.length < 1000 ∧
  D.nx σ (upd H2 a (.ins C dx (putF f y fs)))
section
variable {X : Cx} {o e value : Expr} {f : Str} {pos pos' tpos : Pos} {ta tv : TE}
theorem pe_fld (he : PE X e ta) (hb : attributeBase e f X.env (eval e X.env) = eval e X.env) : PE X (.Attribute e f pos) (tFld X.K ta f) := by
  intro pins s σ H Q I h
  refine attr_of hb (thn (he pins s σ H _ I h) fun u s1 ⟨x, H1, I1, rx, a, C, dx, fs, v, ex, ea, c, n, l, q⟩ => ?_)
  subst ex
  obtain rfl : u = Value.ref a := rx
  exact getattr_ok I1 ea c n l fun u' s2 I2 ru => ⟨v, H1, I2, ru, q⟩
theorem ps_fld (ha : PE X o ta) (hv : PE X value tv) (hs : swapsWith value (some (.Attribute o f pos')) pos.line X.env = pure false) : PS X (.Assign [.Attribute o f pos'] value pos) (sFld X.K ta tv f) := by
  intro pins s σ H D I h
  refine plainObj_wpAny_Assign_Attribute (thn (hv pins s σ H _ I h) fun u s1 ⟨y, H1, I1, ry, q⟩ => thn (ha pins s1 σ H1 _ I1 q) fun ov s2 ⟨x, H2, I2, rx, a, C, dx, fs, ex, ea, c, n, l, q2⟩ => ?_) hs
  subst ex
  obtain rfl : ov = Value.ref a := rx
  exact setattr_ok I2 ea c n l ry fun s3 I3 => ⟨σ, _, I3, q2⟩
/-- what is between an instance and its method: the tree of a method call -/
theorem methcall_of {pl : Sem Bool} {m : Str} {apos : Pos} {args : List Expr} {pins : List (Addr × Obj)} {s : Shared} {σ : St} {H : Hp} {Q : Value → Shared → Prop} {te : TE} (he : PE X e te) (I : Inv X pins σ H s)
    (h : te σ H fun x H1 => ∃ a C dx fs g, x = .ref a ∧ H1 a = some (.ins C dx fs) ∧ Cls X.K C ∧ Meth X.K C m g ∧ fs.lookup m = none ∧
      ∀ s1, Inv X pins σ H1 s1 → wpAny (model X.prog X.w) X.A (callWith pos (.ref g) [.ref a] (backTo pos (starEach args X.env)) (backToKw pos (keywordEach [] X.env))) Q X.xe s1)
    (ht : eval (.Call (.Attribute e m apos) args [] pos) X.env = (do
      let ov ← eval e X.env
      standAt apos.atName
      let (f, first) ← holding [ov] (getMethod ov m pl)
      callWith pos f first (backTo pos (starEach args X.env)) (backToKw pos (keywordEach [] X.env)))) :
    wpAny (model X.prog X.w) X.A (eval (.Call (.Attribute e m apos) args [] pos) X.env) Q X.xe s := by
  refine PySem.W.methodCall_KW (pl := pl) (thn (he pins s σ H _ I h) fun u s1 ⟨x, H1, I1, rx, a, C, dx, fs, g, ex, ea, c, k, l, q⟩ => ?_) ht
  subst ex
  obtain rfl : u = Value.ref a := rx
  exact getmeth_ok I1 ea c k l (q s1 I1)
end

/-! ### isinstance -/
section
variable {X : Cx} {pins : List (Addr × Obj)} {σ : St} {H : Hp} {s : Shared} {A : Around} {E : Value → Shared → Prop} {Q : Value → Shared → Prop} {c : Value} {b : Bool}
end
end L2

namespace L2
open PySem PySem.Spec PyProof.Rows

/-! ### room -/
structure Room (k : Nat) (A : Around) : Prop where
  hd : A.handled = none
  dp : A.depth + 3 * k + 5 < recursionLimit
  un : A.units + 16 * k + 200 < cLine
theorem Room.mono {j k : Nat} {A : Around} (r : Room k A) (h : j ≤ k) : Room j A := ⟨r.hd, by have := r.dp; omega, by have := r.un; omega⟩
theorem Room.deeper {k : Nat} {A : Around} (r : Room (k + 1) A) (env : Env) : Room k (A.deeper env) :=
  ⟨r.hd, by have := r.dp; show A.depth + 1 + 3 * k + 5 < _; omega, by have := r.un; show A.units + 3 + 16 * k + 200 < _; omega⟩
theorem make_depth {A : Around} {C : Addr} {us : List Value} {kw : List (Str × Value)} : (A.under (.builtin "type.__call__" ⟨.ref C :: us, kw⟩)).depth = A.depth + 1 := by
  first | rfl | simp [Around.under, Code.weight, Code.isCreation, Code.isGuard, Code.isCaller, Code.frames, Code.isFrame, guardIds]
theorem make_units {A : Around} {C : Addr} {us : List Value} {kw : List (Str × Value)} : (A.under (.builtin "type.__call__" ⟨.ref C :: us, kw⟩)).units = A.units + 1 := by
  first | rfl | simp [Around.under, Code.cUnits, Code.frames, Code.isFrame]
theorem Room.make {k : Nat} {A : Around} (r : Room (k + 1) A) (C : Addr) (us : List Value) (kw : List (Str × Value)) : Room k (A.under (.builtin "type.__call__" ⟨.ref C :: us, kw⟩)) :=
  ⟨r.hd, by have := r.dp; rw [make_depth]; omega, by have := r.un; rw [make_units]; omega⟩
theorem Room.depth {k : Nat} {A : Around} (r : Room k A) : A.depth < recursionLimit := by have := r.dp; omega
theorem Room.units {k : Nat} {A : Around} (r : Room k A) : A.units + 64 < cLine := by have := r.un; omega
/-! ### argument lists and displays -/
def tNil : TA := fun _ H Q => Q [] H
def tCons (ta : TE) (tr : TA) : TA := fun σ H Q => ta σ H fun x H1 => tr σ H1 fun xs H2 => Q (x :: xs) H2
section
variable {X : Cx} {e : Expr} {es : List Expr} {te : TE} {t : TA} {pos : Pos}
theorem pa_nil : PA X [] tNil := fun _ _ _ _ H Q I h => Calls.spliced_nil ⟨[], H, I, .nil, h⟩
theorem pa_cons (ha : PE X e te) (hr : PA X es t) (hs : starEach (e :: es) X.env = (false, eval e X.env) :: starEach es X.env := by rfl) : PA X (e :: es) (tCons te t) := by
  intro pos pins s σ H Q I h
  rw [hs]
  show wpAny _ _ (spliced ((false, eval e X.env) :: backTo pos (starEach es X.env))) _ _ s
  refine Calls.spliced_cons (thn (ha pins s σ H _ I h) fun u s1 ⟨x, H1, I1, r1, q1⟩ => ?_)
  exact thn (hr pos pins s1 σ H1 _ I1 q1) fun us s2 ⟨xs, H2, I2, r2, q2⟩ => ⟨x :: xs, H2, I2, .cons r1 r2, q2⟩

/-- a tuple, a list of written items -/
def tTup (t : TA) : TE := fun σ H Q => t σ H fun xs H1 => xs.length ≤ sizeLine ∧ ∀ p, H1 p = none → Q (.ref p) (upd H1 p (.tup xs))
def tLst (t : TA) : TE := fun σ H Q => t σ H fun xs H1 => xs.length ≤ sizeLine ∧ ∀ p, H1 p = none → Q (.ref p) (upd H1 p (.lst xs))
theorem pe_tup {x1} (h : PA X es t) : PE X (.Tuple es x1 pos) (tTup t) := by
  intro pins s σ H Q I hq
  refine wpAny_Tuple_spliced (thn (h pos pins s σ H _ I hq) fun us s1 ⟨xs, H1, I1, r, z, q⟩ => ⟨by rw [← r.length]; exact z, ?_⟩)
  have hf : H1 s1.heap.objs.size = none := I1.hok.fresh (Nat.le_refl _)
  refine ⟨.ref s1.heap.objs.size, upd H1 s1.heap.objs.size (.tup xs), I1.laid (t' := s1.toks) (fun b u e => Heap.get?_push_of_some _ e) (Nat.le_refl _) ?_, rfl, q _ hf⟩
  exact ⟨z, us, r, ⟨_, Heap.get?_push_size _ rfl, rfl, _, rfl⟩⟩
theorem pe_lst (h : PA X es t) : PE X (.List es pos) (tLst t) := by
  intro pins s σ H Q I hq
  refine wpAny_List_spliced (thn (h pos pins s σ H _ I hq) fun us s1 ⟨xs, H1, I1, r, z, q⟩ => ⟨by rw [← r.length]; exact z, ?_⟩)
  have hf : H1 s1.heap.objs.size = none := I1.hok.fresh (Nat.le_refl _)
  refine ⟨.ref s1.heap.objs.size, upd H1 s1.heap.objs.size (.lst xs), I1.laid (t' := s1.toks) (fun b u e => Heap.get?_push_of_some _ e) (Nat.le_refl _) ?_, rfl, q _ hf⟩
  exact ⟨z, us, 0, r, Heap.get?_push_size _ rfl⟩
end

/-! ### what a def promises -/
/-- a def's promise: the bound arguments in the parameters' order, the heap, the wanted end, the wanted exception -/
abbrev Sp := List V → Hp → VK → XK → Prop
/-- how an exception lies behind a call (file 08 gives it): the callers' frames, abstract heap and state ahead of the call, the wish, the exception, the state -/
abbrev CXT := List Env → Hp → Shared → XK → Value → Shared → Prop

/-- the state at a call -/
structure Env0 (P : Program) (w : World) (K : PySem.W.Frag) (mg : Str → Option Value) (base : Heap) (A : Around) (outer : List Env) (s : Shared) (H : Hp) : Prop where
  frames : A.frames = some outer
  mod : Mod K mg base
  bs : ∀ b o, base.get? b = some o → s.heap.get? b = some o ∧ H b = none
  bsz : base.objs.size ≤ s.heap.objs.size
  funs : s.heap.FunFrames base outer
  frf : ∀ b ∈ frs outer, H b = none
  hok : HOk P w H s.heap
  bare : AllBare s.gens
/-- a call's end -/
def CE (outer : List Env) (P : Program) (w : World) (H : Hp) (s : Shared) (Q : VK) (u : Value) (s' : Shared) : Prop :=
  ∃ v H', s'.os = s.os ∧ AllBare s'.gens ∧ Un (frs outer) [] H H' s.heap s'.heap ∧ HOk P w H' s'.heap ∧ RelV v u ∧ Q v H'
def CR (CX : CXT) (outer : List Env) (P : Program) (w : World) (H : Hp) (s : Shared) (Q : VK) (E : XK) (r : Result) (s' : Shared) : Prop :=
  match r with
  | .ok (.ret u) => CE outer P w H s Q u s'
  | .ok _ => False
  | .error e => CX outer H s E e s'
structure FnOk (P : Program) (w : World) (K : PySem.W.Frag) (mg : Str → Option Value) (base : Heap) (CX : CXT) (k : Nat) (f : Addr) (fd : FuncData) (ps : List Str) (sp : Sp) : Prop where
  len : ∀ vs H Q E, sp vs H Q E → vs.length = ps.length
  run : ∀ (A : Around) (outer : List Env) (s : Shared) (H : Hp) (args : Args) (us : List Value) (vs : List V) (Q : VK) (E : XK), Room k A → Env0 P w K mg base A outer s H → BindsTo s fd args (ps.zip us) → Vals vs us → sp vs H Q E →
    codeAny (model P w) A (.call (.ref f) args) (CR CX outer P w H s Q E) s
theorem FnOk.mono {P : Program} {w : World} {K : PySem.W.Frag} {mg : Str → Option Value} {base : Heap} {CX : CXT} {j k : Nat} {f : Addr} {fd : FuncData} {ps : List Str} {sp : Sp} (F : FnOk P w K mg base CX j f fd ps sp) (h : j ≤ k) :
    FnOk P w K mg base CX k f fd ps sp := ⟨F.len, fun A outer s H args us vs Q E hr => F.run A outer s H args us vs Q E (hr.mono h)⟩
theorem Env0.make {P : Program} {w : World} {K : PySem.W.Frag} {mg : Str → Option Value} {base : Heap} {A : Around} {outer : List Env} {s : Shared} {H : Hp} (e : Env0 P w K mg base A outer s H) (C : Addr) (us : List Value) (kw : List (Str × Value)) :
    Env0 P w K mg base (A.under (.builtin "type.__call__" ⟨.ref C :: us, kw⟩)) outer s H := ⟨by first | exact e.frames | (simpa [Around.under, Code.envs, Code.isFrame, pushEnvs] using e.frames), e.mod, e.bs, e.bsz, e.funs, e.frf, e.hok, e.bare⟩
section
variable {X : Cx} {pins : List (Addr × Obj)} {σ : St} {H : Hp} {s s' : Shared}
/-- from a body: what a callee wants -/
theorem Inv.env0 (I : Inv X pins σ H s) : Env0 X.prog X.w X.K X.mg X.base X.A X.stack s H :=
  ⟨I.ok.frames, I.ok.mod, I.bs, Nat.le_trans I.ok.bsz I.sz, I.stack, I.stkFree, I.hok, I.bare⟩
/-- behind a call -/
theorem Inv.after {Q : VK} {u : Value} (I : Inv X pins σ H s) (h : CE X.stack X.prog X.w H s Q u s') : EP X pins σ Q u s' := by
  obtain ⟨v, H', os, bare, un, hok, r, q⟩ := h
  obtain ⟨hh, g, d, t, os'⟩ := s'
  obtain rfl : os' = s.os := os
  exact ⟨v, H', I.call (h' := hh) (g' := g) (d' := d) (t' := t) (ch := []) un hok bare (fun b z => absurd z (by simp)), r, q⟩
end

/-! ### calls -/
/-- f(..): the written arguments, then the defaults dvs; E: what is wanted of an exception -/
def tCall (sp : Sp) (dvs : List V) (E : XK) (t : TA) : TE := fun σ H Q => t σ H fun vs H1 => sp (vs ++ dvs) H1 Q E
/-- o.m(..) of an instance of the class at C -/
def tMeth (C : Addr) (m : Str) (sp : Sp) (dvs : List V) (E : XK) (ta : TE) (t : TA) : TE := fun σ H Q => ta σ H fun x H1 => ∃ a dx fs, x = .ref a ∧ H1 a = some (.ins C dx fs) ∧ fs.lookup m = none ∧
  t σ H1 fun vs H2 => sp (x :: (vs ++ dvs)) H2 Q E
/-- C(..): a new instance and its dict, then __init__ -/
def tMake (C : Addr) (sp : Sp) (dvs : List V) (E : XK) (t : TA) : TE := fun σ H Q => t σ H fun vs H1 => ∀ x dx, H1 x = none → H1 dx = none → dx ≠ x →
  sp (.ref x :: (vs ++ dvs)) (upd (upd H1 dx (.own x)) x (.ins C dx [])) (fun v H2 => v = .non ∧ Q (.ref x) H2) E

/-- how the parameters are bound: us the positional arguments, kw the keywords' values by name, ds the defaults that fill up -/
def Binds (K : PySem.W.Frag) (fd : FuncData) (ps : List Str) (ds : List Value) : Prop :=
  ∀ (s : Shared) (us : List Value), K.In s.heap → (us ++ ds).length = ps.length → BindsTo s fd ⟨us, []⟩ (ps.zip (us ++ ds))
/-- every parameter is given -/
theorem Binds.all {K : PySem.W.Frag} {fd : FuncData} {ps : List Str} (h : ∀ us : List Value, us.length = ps.length → bindArgs fd ⟨us, []⟩ = pure (ps.zip us)) : Binds K fd ps [] := fun s us _ hl => by
  rw [List.append_nil] at hl ⊢
  exact .of_eq (h us hl)

/-- an exception of a callee reaches what this body wants of exceptions -/
def Passes (CX : CXT) (X : Cx) (E : XK) : Prop := ∀ (pins : List (Addr × Obj)) (σ : St) (H : Hp) (s : Shared) (e : Value) (s' : Shared), Inv X pins σ H s → CX X.stack H s E e s' → X.xe e s'

section
variable {X : Cx} {CX : CXT} {k : Nat} {f C : Addr} {fd : FuncData} {ps : List Str} {sp : Sp} {dvs : List V} {ds : List Value} {E : XK} {x m : Str} {p pos apos : Pos} {e o : Expr} {es : List Expr} {ta : TE} {t : TA}

/-- the callee runs -/
theorem run_fn {pins : List (Addr × Obj)} {σ : St} {H : Hp} {s : Shared} {Q : VK} {us : List Value} {vs : List V} (F : FnOk X.prog X.w X.K X.mg X.base CX k f fd ps sp) (hr : Room k X.A) (hb : Binds X.K fd ps ds) (hd : Vals dvs ds) (hx : Passes CX X E)
    (I : Inv X pins σ H s) (r : Vals vs us) (h : sp (vs ++ dvs) H Q E) : wpAny (model X.prog X.w) X.A (call (.ref f) us) (EP X pins σ Q) X.xe s := by
  have r2 : Vals (vs ++ dvs) (us ++ ds) := r.append hd
  have hl : (us ++ ds).length = ps.length := by rw [← r2.length]; exact F.len _ _ _ _ h
  refine wpAny_call (codeAny_mono (F.run X.A X.stack s H ⟨us, []⟩ (us ++ ds) (vs ++ dvs) Q E hr I.env0 (hb s us I.kIn hl) r2 h) fun r s' hq => ?_)
  cases r with
  | error e => exact hx pins σ H s e s' I hq
  | ok fl =>
    cases fl with
    | ret u => exact I.after hq
    | next => exact False.elim hq
    | brk => exact False.elim hq
    | cont => exact False.elim hq

theorem pe_call (F : FnOk X.prog X.w X.K X.mg X.base CX k f fd ps sp) (hr : Room k X.A) (hg : Gl X x) (hm : X.mg x = some (.ref f)) (hk : PySem.W.keepIn X.K (.ref f) = true) (hb : Binds X.K fd ps ds) (hd : Vals dvs ds) (hx : Passes CX X E)
    (ha : PA X (e :: es) t) (hdb : (x == ("__debug__" : Str)) = false := by decide) (he : starEach (e :: es) X.env = (false, eval e X.env) :: starEach es X.env := by rfl) (hpl : (backTo pos (starEach es X.env)).any (·.1) = false := by rfl) :
    PE X (.Call (.Name x p) (e :: es) [] pos) (tCall sp dvs E t) := by
  intro pins s σ H Q I h
  refine wpAny_Call_Name_kw (ld_glob I hg hm ?_ hdb)
  refine PySem.W.callWith_K (h₀ := X.base) I.ok.mod.kin hk (thn (ha pos pins s σ H _ I h) fun us s1 ⟨vs, H1, I1, r, q⟩ => ⟨I1.kIn, ?_⟩) he hpl
  exact run_fn F hr hb hd hx I1 r q
/-- o.m(e, ..) -/
theorem pe_meth {pl : Sem Bool} (he : PE X o ta) (c : Cls X.K C) (hm : Meth X.K C m f) (F : FnOk X.prog X.w X.K X.mg X.base CX k f fd ps sp) (hr : Room k X.A) (hb : Binds X.K fd ps ds) (hd : Vals dvs ds) (hx : Passes CX X E) (ha : PA X (e :: es) t)
    (hst : starEach (e :: es) X.env = (false, eval e X.env) :: starEach es X.env := by rfl) (hpl : (backTo pos (starEach es X.env)).any (·.1) = false := by rfl)
    (ht : eval (.Call (.Attribute o m apos) (e :: es) [] pos) X.env = (do
      let ov ← eval o X.env
      standAt apos.atName
      let (f, first) ← holding [ov] (getMethod ov m pl)
      callWith pos f first (backTo pos (starEach (e :: es) X.env)) (backToKw pos (keywordEach [] X.env))) := by rfl) :
    PE X (.Call (.Attribute o m apos) (e :: es) [] pos) (tMeth C m sp dvs E ta t) := by
  intro pins s σ H Q I h
  refine PySem.W.methodCall_KW (pl := pl) (thn (he pins s σ H _ I h) fun u s1 ⟨x, H1, I1, rx, a, dx, fs, ex, ea, l, q⟩ => ?_) ht
  subst ex
  obtain rfl : u = Value.ref a := rx
  refine getmeth_ok I1 ea c hm l ?_
  refine PySem.W.callWith_K (first := [.ref a]) (h₀ := X.base) I.ok.mod.kin hm.kp (thn (ha pos pins s1 σ H1 _ I1 q) fun us s2 ⟨vs, H2, I2, r, q2⟩ => ⟨I2.kIn, ?_⟩) hst hpl
  exact run_fn (us := .ref a :: us) (vs := .ref a :: vs) F hr hb hd hx I2 (.cons rfl r) q2
/-- o.m() -/
theorem pe_meth0 {pl : Sem Bool} (he : PE X o ta) (c : Cls X.K C) (hm : Meth X.K C m f) (F : FnOk X.prog X.w X.K X.mg X.base CX k f fd ps sp) (hr : Room k X.A) (hb : Binds X.K fd ps ds) (hd : Vals dvs ds) (hx : Passes CX X E)
    (ht : eval (.Call (.Attribute o m apos) [] [] pos) X.env = (do
      let ov ← eval o X.env
      standAt apos.atName
      let (f, first) ← holding [ov] (getMethod ov m pl)
      callWith pos f first (backTo pos (starEach [] X.env)) (backToKw pos (keywordEach [] X.env))) := by rfl) :
    PE X (.Call (.Attribute o m apos) [] [] pos) (tMeth C m sp dvs E ta tNil) := by
  intro pins s σ H Q I h
  refine PySem.W.methodCall_KW (pl := pl) (thn (he pins s σ H _ I h) fun u s1 ⟨x, H1, I1, rx, a, dx, fs, ex, ea, l, q⟩ => ?_) ht
  subst ex
  obtain rfl : u = Value.ref a := rx
  refine getmeth_ok I1 ea c hm l ?_
  exact PySem.W.callWith_K0 (first := [.ref a]) I1.kIn hm.kp (run_fn (us := [.ref a]) (vs := [.ref a]) F hr hb hd hx I1 (.cons rfl .nil) q)

/-- what a class must have to be made -/
structure Mk (K : PySem.W.Frag) (C f : Addr) : Prop where
  makes : PySem.W.makesIn K C = true
  init : PySem.W.findIn K (.ref C) "__init__" = some (some (.ref f))
  fn : PySem.W.isFn K (.ref f) = true
  kp : PySem.W.keepIn K (.ref C) = true

theorem run_make {pins : List (Addr × Obj)} {σ : St} {H : Hp} {s : Shared} {Q : VK} {us : List Value} {vs : List V} (M : Mk X.K C f) (F : FnOk X.prog X.w X.K X.mg X.base CX k f fd ps sp) (hr : Room (k + 1) X.A) (hb : Binds X.K fd ps ds) (hd : Vals dvs ds)
    (hx : Passes CX X E) (I : Inv X pins σ H s) (r : Vals vs us)
    (h : ∀ x dx, H x = none → H dx = none → dx ≠ x → sp (.ref x :: (vs ++ dvs)) (upd (upd H dx (.own x)) x (.ins C dx [])) (fun v H2 => v = .non ∧ Q (.ref x) H2) E) :
    wpAny (model X.prog X.w) X.A (call (.ref C) us) (EP X pins σ Q) X.xe s := by
  have hq := h (s.heap.objs.size + 1) s.heap.objs.size (I.hok.fresh (Nat.le_succ _)) (I.hok.fresh (Nat.le_refl _)) (Nat.ne_of_lt (Nat.lt_succ_self _))
  have I2 := Inv.made (C := C) I
  have r2 : Vals (V.ref (s.heap.objs.size + 1) :: (vs ++ dvs)) (Value.ref (s.heap.objs.size + 1) :: (us ++ ds)) := .cons rfl (r.append hd)
  have hl : (Value.ref (s.heap.objs.size + 1) :: us ++ ds).length = ps.length := by
    have e := r2.length
    rw [F.len _ _ _ _ hq] at e
    exact e.symm
  refine wpAny_call (make_map (f := f) I.kIn M.makes M.init (beq_iff_eq.mp M.fn) (codeAny_mono (F.run _ X.stack _ _ ⟨Value.ref (s.heap.objs.size + 1) :: us, []⟩ (Value.ref (s.heap.objs.size + 1) :: (us ++ ds)) _ _ E (hr.make C us [])
    (I2.env0.make C us []) (hb _ (Value.ref (s.heap.objs.size + 1) :: us) I2.kIn hl) r2 hq) fun r s' hq' => ?_))
  cases r with
  | error e => exact hx pins σ _ _ e s' I2 hq'
  | ok fl =>
    cases fl with
    | ret u =>
      obtain ⟨v, H', I3, rv, ev, q3⟩ := I2.after hq'
      subst ev
      exact ⟨rv, ⟨V.ref (s.heap.objs.size + 1), H', I3, rfl, q3⟩⟩
    | next => exact False.elim hq'
    | brk => exact False.elim hq'
    | cont => exact False.elim hq'
theorem pe_make0 (M : Mk X.K C f) (F : FnOk X.prog X.w X.K X.mg X.base CX k f fd ps sp) (hr : Room (k + 1) X.A) (hg : Gl X x) (hm : X.mg x = some (.ref C)) (hb : Binds X.K fd ps ds) (hd : Vals dvs ds) (hx : Passes CX X E)
    (hdb : (x == ("__debug__" : Str)) = false := by decide) : PE X (.Call (.Name x p) [] [] pos) (tMake C sp dvs E tNil) := by
  intro pins s σ H Q I h
  refine wpAny_Call_Name_kw (ld_glob I hg hm ?_ hdb)
  exact PySem.W.callWith_K0 I.kIn M.kp (run_make (us := []) M F hr hb hd hx I .nil h)
end

/-! ### keywords -/
section
variable {X : Cx} {CX : CXT} {k : Nat} {f C : Addr} {fd : FuncData} {ps ks : List Str} {sp : Sp} {E : XK} {x m : Str} {p pos apos kpos : Pos} {e o : Expr} {es : List Expr} {kws : List Keyword} {te ta : TE} {t tk : TA} {nm : Option Str}
variable {g : List Value → List Value → List Value} {gV : List V → List V → List V}
end

/-! ### a def's body keeps its promise -/
/-- names: the parameters first -/
structure FnScope (N P : List Str) (sc : Scope) : Prop where
  kind : sc.kind = .function
  co : sc.isCoroutine = false
  gen : sc.isGenerator = false
  nd : N.Nodup
  pre : N.take P.length = P
  par : ∀ x ∈ P, sc.names.lookup x = some .local ∨ sc.names.lookup x = some .cell
  nofree : ∀ y ∈ sc.names, y.2 ≠ .free

theorem bindL_out {kindOf : Str → Option NameKind} {x : Str} : ∀ {binds : List (Str × Value)} {m : Str → Option Value}, (∀ v, (x, v) ∉ binds) → bindL kindOf binds m x = m x
  | [], _, _ => rfl
  | (n, v) :: r, m, h => by
    unfold bindL
    rw [bindL_out fun w hw => h w (List.mem_cons_of_mem _ hw)]
    split
    · have : x ≠ n := by rintro rfl; exact h v List.mem_cons_self
      simp [this]
    · rfl
theorem bindC_out {kindOf : Str → Option NameKind} {x : Str} : ∀ {binds : List (Str × Value)} {m : Str → Option Value}, (∀ v, (x, v) ∉ binds) → bindC kindOf binds m x = m x
  | [], _, _ => rfl
  | (n, v) :: r, m, h => by
    unfold bindC
    rw [bindC_out fun w hw => h w (List.mem_cons_of_mem _ hw)]
    split
    · rfl
    · have : x ≠ n := by rintro rfl; exact h v List.mem_cons_self
      simp [this]
theorem bindL_get {kindOf : Str → Option NameKind} {x : Str} {v : Value} : ∀ {P : List Str} {vs : List Value} {i : Nat} {m : Str → Option Value}, P.Nodup → P[i]? = some x → vs[i]? = some v → kindOf x = some .local →
    bindL kindOf (P.zip vs) m x = some v
  | [], _, _, _, _, h, _, _ => by simp at h
  | _ :: _, [], _, _, _, _, h, _ => by simp at h
  | p :: P, w :: vs, 0, m, nd, h1, h2, hk => by
    simp at h1 h2; subst h1; subst h2
    show bindL kindOf ((p, w) :: P.zip vs) m p = _
    unfold bindL
    rw [bindL_out fun v hv => (List.nodup_cons.mp nd).1 (List.of_mem_zip hv).1, if_pos hk]
    simp
  | p :: P, w :: vs, i + 1, m, nd, h1, h2, hk => by
    show bindL kindOf ((p, w) :: P.zip vs) m x = _
    unfold bindL
    exact bindL_get (i := i) (List.nodup_cons.mp nd).2 (by simpa using h1) (by simpa using h2) hk
theorem bindC_get {kindOf : Str → Option NameKind} {x : Str} {v : Value} : ∀ {P : List Str} {vs : List Value} {i : Nat} {m : Str → Option Value}, P.Nodup → P[i]? = some x → vs[i]? = some v → kindOf x ≠ some .local →
    bindC kindOf (P.zip vs) m x = some v
  | [], _, _, _, _, h, _, _ => by simp at h
  | _ :: _, [], _, _, _, _, h, _ => by simp at h
  | p :: P, w :: vs, 0, m, nd, h1, h2, hk => by
    simp at h1 h2; subst h1; subst h2
    show bindC kindOf ((p, w) :: P.zip vs) m p = _
    unfold bindC
    rw [bindC_out fun v hv => (List.nodup_cons.mp nd).1 (List.of_mem_zip hv).1, if_neg hk]
    simp
  | p :: P, w :: vs, i + 1, m, nd, h1, h2, hk => by
    show bindC kindOf ((p, w) :: P.zip vs) m x = _
    unfold bindC
    exact bindC_get (i := i) (List.nodup_cons.mp nd).2 (by simpa using h1) (by simpa using h2) hk

/-- the names' values at the entry -/
def start (N : List Str) (vs : List V) : St := vs.map some ++ List.replicate (N.length - vs.length) none

/-- the context of a def's body, at its entry; an exception leaves the frame, then lies as CX says -/
def cxOf (CX : CXT) (P : Program) (w : World) (K : PySem.W.Frag) (mg : Str → Option Value) (base : Heap) (N : List Str) (qual : Str) (scope : Scope) (f : Addr) (cd : Value) (A : Around) (outer : List Env) (s : Shared) (H : Hp) (E : XK) : Cx where
  prog := P
  w := w
  K := K
  mg := mg
  base := base
  A := A.deeper (envOfC qual scope s.heap.objs.size f cd)
  N := N
  s_0 := s
  H_0 := H
  env := envOfC qual scope s.heap.objs.size f cd
  outer := outer
  stack := envOfC qual scope s.heap.objs.size f cd :: outer
  ex := []
  calm := true
  fn := fun _ => true
  pn := []
  xe := fun e s' => wpAny (model P w) (A.deeper (envOfC qual scope s.heap.objs.size f cd)) (leaving (envOfC qual scope s.heap.objs.size f cd) e) (fun _ s'' => CX outer H s E e s'') (fun e' s'' => CX outer H s E e' s'') s'

theorem cell_has {sc : Scope} {n : Nat} {x : Str} (h : sc.names.lookup x = some .cell) : ∃ c, (cellsFrom n sc.names []).lookup x = some c := by
  have q := PySem.W.cellsFrom_some sc.names n [] (.inl h)
  exact Option.isSome_iff_exists.mp q

theorem inv_start {CX : CXT} {P : Program} {w : World} {K : PySem.W.Frag} {mg : Str → Option Value} {base : Heap} {N ps : List Str} {qual : Str} {scope : Scope} {f : Addr} {cd : Value} {A : Around} {outer : List Env} {s s1 : Shared} {H : Hp} {E : XK} {us : List Value} {vs : List V}
    (S : FnScope N ps scope) (hd : A.handled = none) (e0 : Env0 P w K mg base A outer s H) (hl : vs.length = ps.length) (r : Vals vs us)
    (x : InCallC s s.heap.objs.size (bindL (envOfC qual scope s.heap.objs.size f cd).kindOf (ps.zip us) fun _ => none) (cellsFrom (s.heap.objs.size + 1) scope.names []) (bindC (envOfC qual scope s.heap.objs.size f cd).kindOf (ps.zip us) fun _ => none) s1) :
    Inv (cxOf CX P w K mg base N qual scope f cd A outer s H E) [] (start N vs) H s1 := by
  have hpl : ps.length ≤ N.length := by have := congrArg List.length S.pre; rw [List.length_take] at this; omega
  obtain ⟨h1, tk, rfl, hk⟩ := x.done
  have noA : ∀ b : Addr, b ∉ (cxOf CX P w K mg base N qual scope f cd A outer s H E).ex := fun b z => absurd (show b ∈ ([] : List Addr) from z) (by simp)
  refine ⟨⟨e0.mod, S.kind, rfl, rfl, Nat.le_refl _, fun y z c h1 h2 => ?_, fun y hy => ?_, fun y c _ h => ?_, fun _ => hd, Around.frames_deeper e0.frames, .inr ⟨rfl, rfl⟩, fun b z => absurd z (noA b), e0.bs, e0.bsz, fun b _ _ => noA b, fun b z => absurd z (noA b), e0.funs, e0.frf⟩,
    rfl, e0.bare, Un.kept hk, ⟨_, x.toInCall.ns, fun i y v h1 h2 h3 => ?_⟩, fun y c h => ⟨_, x.cell y c h⟩, e0.hok.fresh (Nat.le_refl _), fun y c h => ?_, fun p hp => absurd (show p ∈ ([] : List (Addr × Obj)) from hp) (by simp), e0.hok.kept hk, ?_⟩
  · exact name_of_addr x.apart (PySem.mem_of_lookup h1) (PySem.mem_of_lookup h2)
  · have hy : scope.names.lookup y = some .cell ∨ scope.names.lookup y = some .free := hy
    rcases hy with hy | hy
    · exact cell_has hy
    · exact absurd rfl (S.nofree _ (PySem.mem_of_lookup hy))
  · exact Nat.le_of_lt (x.above y c (PySem.mem_of_lookup h))
  · have hi : i < vs.length := by
      unfold start at h2
      by_cases hi : i < vs.length
      · exact hi
      · rw [List.getElem?_append_right (by simpa using hi)] at h2
        rw [List.getElem?_replicate] at h2
        split at h2 <;> cases h2
    have ha : vs[i]? = some v := by
      unfold start at h2
      rw [List.getElem?_append_left (by simpa using hi), List.getElem?_map] at h2
      cases e : vs[i]? with
      | none => rw [e] at h2; cases h2
      | some a => rw [e] at h2; cases h2; rfl
    obtain ⟨u, hu, rv⟩ := r.get ha
    have hp : ps[i]? = some y := by
      rw [← S.pre, List.getElem?_take_of_lt (by omega)]; exact h1
    have ndP : ps.Nodup := by rw [← S.pre]; exact S.nd.sublist (List.take_sublist _ _)
    refine ⟨u, rv, ?_⟩
    rcases S.par y (List.mem_of_getElem? hp) with k | k
    · exact .inl ⟨k, bindL_get ndP hp hu k⟩
    · obtain ⟨c, e⟩ := cell_has (n := s.heap.objs.size + 1) k
      refine .inr ⟨.inl k, c, e, ?_⟩
      have q := x.cell y c e
      rw [bindC_get ndP hp hu (by show scope.names.lookup y ≠ _; rw [k]; decide)] at q
      exact q
  · exact e0.hok.fresh (Nat.le_of_lt (x.above y c (PySem.mem_of_lookup h)))
  · unfold start
    show _ = N.length
    rw [List.length_append, List.length_map, List.length_replicate]
    omega

/-- THE RULE: a def (or a method) of the text, by its body. The body's reading t is chosen for each entry; it is run at the parameters' values -/
theorem fn_of {CX : CXT} {P : Program} {w : World} {K : PySem.W.Frag} {mg : Str → Option Value} {base : Heap} {k : Nat} {f : Addr} {name qual : Str} {params : Arguments} {body : List Stmt} {scope : Scope} {dV kV doc pm cdv ct oc : Value} {an od : Option Addr}
    {osl : Array (Option Value)} {N ps : List Str} {sp : Sp} (lk : K.lookup f = some ⟨oc, od, .func (PySem.W.fnOf name qual params body scope dV kV doc pm an cdv ct), osl⟩) (hcd : PySem.W.codeIn K cdv qual = true) (S : FnScope N ps scope)
    (len : ∀ vs H Q E, sp vs H Q E → vs.length = ps.length)
    (hbody : ∀ (A : Around) (outer : List Env) (s : Shared) (H : Hp) (vs : List V) (Q : VK) (E : XK), Room k (A.deeper (envOfC qual scope s.heap.objs.size f cdv)) → sp vs H Q E →
      ∃ t, PSs (cxOf CX P w K mg base N qual scope f cdv A outer s H E) body t ∧ t { nx := fun _ H' => Q .non H', rt := Q } (start N vs) H) :
    FnOk P w K mg base CX (k + 1) f (PySem.W.fnOf name qual params body scope dV kV doc pm an cdv ct) ps sp := by
  refine ⟨len, fun A outer s H args us vs Q E hr e0 hb r hsp => ?_⟩
  have hl := len _ _ _ _ hsp
  have KX : K.In s.heap := e0.mod.kin.keeps fun b o e => (e0.bs b o e).1
  have lim : s.heap.NoLimit := e0.mod.nolimit.keeps fun b o e => (e0.bs b o e).1
  have hkind : ∀ y ∈ ps.zip us, scope.names.lookup y.1 = some .local ∨ (scope.names.lookup y.1 = some .cell ∧ ((cellsFrom (s.heap.objs.size + 1) scope.names []).lookup y.1).isSome = true) := fun ⟨n, v⟩ hy => by
    rcases S.par n (List.of_mem_zip hy).1 with q | q
    · exact .inl q
    · exact .inr ⟨q, PySem.W.cellsFrom_some _ _ _ (.inl q)⟩
  refine codeAny_call_function hr.depth (KX _ _ lk) rfl S.co S.gen rfl (PySem.W.codeRec_of KX hcd) (hb _ _ _ _ ?_)
  refine wpAny_newFunctionEnv_cells S.kind hkind fun env he s1 x => ?_
  subst he
  refine ⟨lim.keeps x.toInCall.keep, codeAny_func ?_⟩
  obtain ⟨t, ht, hq⟩ := hbody A outer s H vs Q E (hr.deeper _) hsp
  have I : Inv (cxOf CX P w K mg base N qual scope f cdv A outer s H E) [] (start N vs) H s1 := inv_start S hr.hd e0 hl r x
  refine wpAny_mono (ht [] s1 (start N vs) H _ I hq) (fun fl s' hs => ?_) fun e s' hs => hs
  have fin : ∀ {σ' : St} {H' : Hp} {v : V} {u : Value}, Inv (cxOf CX P w K mg base N qual scope f cdv A outer s H E) [] σ' H' s' → RelV v u → Q v H' → CE outer P w H s Q u s' :=
    fun {σ' H' v u} J rv q => ⟨v, H', J.os, J.bare, J.base, J.hok, rv, q⟩
  cases fl with
  | ret u =>
    obtain ⟨v, σ', H', J, rv, q⟩ := hs
    exact fin J rv q
  | next =>
    obtain ⟨σ', H', J, q⟩ := hs
    exact fin (v := V.non) (u := Value.none) J rfl q
  | brk =>
    obtain ⟨_, _, _, q⟩ := hs
    exact False.elim q
  | cont =>
    obtain ⟨_, _, _, q⟩ := hs
    exact False.elim q
end L2

namespace L2
open PySem PySem.Spec PyProof.Rows
section
variable {X : Cx} {x : Str} {p pos : Pos} {e : Expr} {es : List Expr} {t : TA} {id T : String} {r : List V → Hp → VK → Prop}

def tCB (r : List V → Hp → VK → Prop) (t : TA) : TE := fun σ H Q => t σ H fun vs H1 => r vs H1 Q
/-- f(e, ..), f a built-in function -/
theorem pe_callB (hc : CallR X (.builtin id) r) (hg : Gl X x) (hm : X.mg x = none) (hv : bootBuiltins x = some (.builtin id)) (ha : PA X (e :: es) t) (hn : x ≠ "__name__" := by decide) (hdb : (x == ("__debug__" : Str)) = false := by decide)
    (he : starEach (e :: es) X.env = (false, eval e X.env) :: starEach es X.env := by rfl) (hpl : (backTo pos (starEach es X.env)).any (·.1) = false := by rfl) : PE X (.Call (.Name x p) (e :: es) [] pos) (tCB r t) := by
  intro pins s σ H Q I h
  refine wpAny_Call_Name_kw (ld_blt I hg hm hv ?_ hn hdb)
  exact PyProof.Rows.callWith_builtin1 (thn (ha pos pins s σ H _ I h) fun us s1 ⟨vs, H1, I1, r1, q1⟩ => hc pins s1 σ H1 vs us Q I1 r1 q1) he hpl
/-- T(e, ..), T a built-in type -/
theorem pe_callTy (hc : CallR X (.type T) r) (hg : Gl X x) (hm : X.mg x = none) (hv : bootBuiltins x = some (.type T)) (ha : PA X (e :: es) t) (hn : x ≠ "__name__" := by decide) (hdb : (x == ("__debug__" : Str)) = false := by decide)
    (he : starEach (e :: es) X.env = (false, eval e X.env) :: starEach es X.env := by rfl) (hpl : (backTo pos (starEach es X.env)).any (·.1) = false := by rfl) : PE X (.Call (.Name x p) (e :: es) [] pos) (tCB r t) := by
  intro pins s σ H Q I h
  refine wpAny_Call_Name_kw (ld_blt I hg hm hv ?_ hn hdb)
  exact PyProof.Rows.callWith_type1 (thn (ha pos pins s σ H _ I h) fun us s1 ⟨vs, H1, I1, r1, q1⟩ => hc pins s1 σ H1 vs us Q I1 r1 q1) he hpl
end
end L2

namespace HT
open PySem PyProof.Rows

section
open PySem.SeqAt
open PySem.AutoSeq1 (wpAny_loadPart')
open PySem.MeetsSeq PySem.MeetsSeq2 PySem.MeetsSeq3

end

section
variable {prog : Program} {w : World} {A : Around} {E : Value → Shared → Prop} {s : Shared}

/-! ### t[a:b], not the whole -/
/-- a slice's bound as a place among n (d where it is left out) -/
def sIx (n d : Nat) : Option Int → Nat
  | none => d
  | some v => if v < 0 then (v + (n : Int)).toNat else min v.toNat n
theorem sIx_none (n d : Nat) : sIx n d none = d := rfl
theorem sIx_nat (n d k : Nat) : sIx n d (some (k : Int)) = min k n := by
  show (if (k : Int) < 0 then ((k : Int) + (n : Int)).toNat else min (k : Int).toNat n) = min k n
  rw [if_neg (by omega), Int.toNat_natCast]
end
end HT

namespace L2
open PySem PySem.Spec PyProof.Rows

/-! ### the parts of a slice -/
abbrev TO := St → Hp → (Option Int → Hp → Prop) → Prop
/-- a slice's part (left out, or an int) -/
def PO (X : Cx) (e : Option Expr) (t : TO) : Prop :=
  ∀ (pins : List (Addr × Obj)) (s : Shared) (σ : St) (H : Hp) (Q : Option Int → Hp → Prop), Inv X pins σ H s → t σ H Q →
    wpAny (model X.prog X.w) X.A (evalPart e X.env) (fun u s' => ∃ o H', Inv X pins σ H' s' ∧ IsPart u o ∧ Q o H') X.xe s
def tNoPart : TO := fun _ H Q => Q none H
def tPart (t : TE) : TO := fun σ H Q => t σ H fun x H1 => ∃ i, x = .int i ∧ Q (some i) H1

theorem intsAre_of {ns : List Int} : ∀ {us : List Value}, Vals (ns.map V.int) us → IntsAre us ns := by
  induction ns with
  | nil => intro us r; rw [List.map_nil] at r; cases r; exact .nil
  | cons n ns ih =>
    intro us r
    rw [List.map_cons] at r
    cases r with
    | cons r1 r2 =>
      obtain ⟨t, e⟩ := r1
      subst e
      exact .cons n t (ih r2)

section
variable {X : Cx} {e : Expr} {te : TE} {lo hi : Option Expr} {tl th : TO} {pos p2 : Pos}

theorem po_none : PO X none tNoPart := by
  intro pins s σ H Q I h
  rw [evalPart_none]
  exact wpAny_pure ⟨none, H, I, .none, h⟩
theorem po_some (h : PE X e te) : PO X (some e) (tPart te) := by
  intro pins s σ H Q I hw
  rw [evalPart_some]
  refine thn (h pins s σ H _ I hw) fun u s1 ⟨x, H1, I1, r1, q1⟩ => ?_
  obtain ⟨i, rfl, q⟩ := q1
  obtain ⟨t, rfl⟩ := r1
  exact ⟨some i, H1, I1, .int i t, q⟩

/-- what a slice of a value is, by values: the slice object stands at sl -/
def SlR (X : Cx) (r : V → Option Int → Option Int → Hp → VK → Prop) : Prop :=
  ∀ (pins : List (Addr × Obj)) (s : Shared) (σ : St) (H : Hp) (x : V) (v vl vu : Value) (lo hi : Option Int) (sl : Addr) (Q : VK), Inv X pins σ H s → RelV x v → s.heap.IsSliceOf sl vl vu .none → IsPart vl lo → IsPart vu hi → r x lo hi H Q →
    ∃ T id, typeLookup (.type T) "__getitem__" = pure (some (.builtin id)) ∧ s.TypeIs v T ∧ wpAny (model X.prog X.w) X.A (getItem v (.ref sl)) (EP X pins σ Q) X.xe s
def tSl (r : V → Option Int → Option Int → Hp → VK → Prop) (te : TE) (tl th : TO) : TE := fun σ H Q => te σ H fun x H1 => tl σ H1 fun l H2 => th σ H2 fun u H3 => r x l u H3 Q
/-- a[lo:hi], any a -/
theorem pe_slice {r : V → Option Int → Option Int → Hp → VK → Prop} (hr : SlR X r) (he : PE X e te) (hl : PO X lo tl) (hu : PO X hi th) : PE X (.Subscript e (.Slice lo hi none p2) pos) (tSl r te tl th) := by
  intro pins s σ H Q I h
  refine Subscript_ (thn (he pins s σ H _ I h) fun v s1 ⟨x, H1, I1, r1, q1⟩ => ?_)
  refine wpAny_Slice (thn (hl pins s1 σ H1 _ I1 q1) fun vl s2 ⟨l, H2, I2, pl, q2⟩ => thn (hu pins s2 σ H2 _ I2 q2) fun vu s3 ⟨u, H3, I3, pu, q3⟩ => ?_)
  rw [evalPart_none]
  refine wpAny_pure ?_
  have I4 : Inv X pins σ H3 { s3 with heap := s3.heap.push { cls := .type "slice", data := .fields #[vl, vu, .none] } } := I3.kept (t' := s3.toks) fun b ob q => Heap.get?_push_of_some _ q
  obtain ⟨T, id, hT, ht, hg⟩ := hr pins { s3 with heap := s3.heap.push { cls := .type "slice", data := .fields #[vl, vu, .none] } } σ H3 x v vl vu l u s3.heap.objs.size Q I4 r1 (Heap.IsSliceOf.new ..) pl pu q3
  show wpAny (model X.prog X.w) X.A (subscriptTail e (.Slice lo hi none p2) v (.ref s3.heap.objs.size)) (EP X pins σ Q) X.xe { s3 with heap := s3.heap.push { cls := .type "slice", data := .fields #[vl, vu, .none] } }
  exact tail_any (ops := [.ref s3.heap.objs.size, v]) ht hT hg (by with_unfolding_all rfl)

/-- the items of xs[lo:hi] -/
def cutV (xs : List V) (lo hi : Option Int) : List V := (xs.drop (HT.sIx xs.length 0 lo)).take (HT.sIx xs.length xs.length hi - HT.sIx xs.length 0 lo)
theorem cutV_length (xs : List V) (lo hi : Option Int) : (cutV xs lo hi).length ≤ xs.length := by
  unfold cutV
  rw [List.length_take, List.length_drop]
  omega
/-! ### t < u, t + u -/
end
end L2

namespace L2
open PySem PySem.Spec PyProof.Rows

/-! ### places -/
/-- the place that an index of any sign means -/
def ixN (n : Nat) (i : Int) : Option Nat := if 0 ≤ i then (if i < n then some i.toNat else none) else if -(n : Int) ≤ i then some (i + n).toNat else none
def atI {α : Type} (xs : List α) (i : Int) : Option α := (ixN xs.length i).bind fun j => xs[j]?
theorem ixN_seq {n : Nat} {i : Int} {j : Nat} (h : ixN n i = some j) : seqIndex? i n = some j ∧ j < n ∧ -(n : Int) ≤ i ∧ i < n := by
  unfold ixN at h
  by_cases h0 : 0 ≤ i
  · rw [if_pos h0] at h
    by_cases h1 : i < n
    · rw [if_pos h1] at h
      have e : i.toNat = j := Option.some.inj h
      exact ⟨by rw [seqIndex_of h0 h1, e], by omega, by omega, h1⟩
    · rw [if_neg h1] at h; cases h
  · rw [if_neg h0] at h
    by_cases h1 : -(n : Int) ≤ i
    · rw [if_pos h1] at h
      have e : (i + n).toNat = j := Option.some.inj h
      exact ⟨by rw [seqIndex_neg (by omega) h1, e], by omega, h1, by omega⟩
    · rw [if_neg h1] at h; cases h
theorem atI_get {α : Type} {xs : List α} {i : Int} {v : α} (h : atI xs i = some v) : ∃ j, seqIndex? i xs.length = some j ∧ xs[j]? = some v ∧ j < xs.length ∧ -(xs.length : Int) ≤ i ∧ i < xs.length := by
  unfold atI at h
  cases e : ixN xs.length i with
  | none => rw [e] at h; cases h
  | some j =>
    rw [e] at h
    obtain ⟨h1, h2, h3, h4⟩ := ixN_seq e
    exact ⟨j, h1, h, h2, h3, h4⟩
theorem atI_nat {α : Type} {xs : List α} {j : Nat} {v : α} (h : xs[j]? = some v) : atI xs (j : Int) = some v := by
  have hj : j < xs.length := (List.getElem?_eq_some_iff.mp h).1
  have e : ixN xs.length (j : Int) = some j := by
    unfold ixN
    rw [if_pos (by omega), if_pos (by omega)]; simp
  unfold atI; rw [e]; exact h
/-! ### what may be subscripted -/
/-- what stands as an index of a plain subscript -/
def PlainIx (b : Expr) : Prop := ∀ o i, subscripted b false o i = operate [o, i] (getItem o i)
/-- a subscript by values -/
def IxR (X : Cx) (r : R2) : Prop :=
  ∀ (value slice : Expr) (pins : List (Addr × Obj)) (s : Shared) (σ : St) (H : Hp) (x y : V) (v u : Value) (Q : VK), Inv X pins σ H s → RelV x v → RelV y u → r x y H Q →
    subscripted slice false v u = operate [v, u] (getItem v u) → wpAny (model X.prog X.w) X.A (subscriptTail value slice v u) (EP X pins σ Q) X.xe s
/-- a call of a builtin's method by values: the receiver, the arguments -/
def MtR (X : Cx) (id : String) (r : V → List V → Hp → VK → Prop) : Prop :=
  ∀ (pins : List (Addr × Obj)) (s : Shared) (σ : St) (H : Hp) (x : V) (xs : List V) (v : Value) (us : List Value) (Q : VK), Inv X pins σ H s → RelV x v → Vals xs us → r x xs H Q →
    wpAny (model X.prog X.w) X.A (call (.builtin id) (v :: us)) (EP X pins σ Q) X.xe s
section
variable {X : Cx} {a b : Expr} {ta tb : TE} {pos : Pos}
/-- a[b] -/
theorem pe_ix {r : R2} (hr : IxR X r) (ha : PE X a ta) (hb : PE X b tb) (hs : PlainIx b) : PE X (.Subscript a b pos) (tOp r ta tb) := by
  intro pins s σ H Q I h
  exact Subscript_ (binT ha hb I h fun v u s2 x y H2 I2 rx ry q => hr a b pins s2 σ H2 x y v u Q I2 rx ry q (hs _ _))

def rIxL (K : PySem.W.Frag) : R2 := fun x y H Q => ∃ p xs i v, x = .ref p ∧ y = .int i ∧ SqL K H p xs ∧ atI xs i = some v ∧ Q v H
def rIxT (K : PySem.W.Frag) : R2 := fun x y H Q => ∃ p xs i v, x = .ref p ∧ y = .int i ∧ SqT K H p xs ∧ atI xs i = some v ∧ Q v H
theorem ix_list : IxR X (rIxL X.K) := by
  intro value slice pins s σ H x y v u Q I rx ry h hs
  obtain ⟨p, xs, i, z, rfl, rfl, hq, he, q⟩ := h
  cases rx
  obtain ⟨t, rfl⟩ := ry
  obtain ⟨its, r, pl, hz⟩ := I.list hq
  obtain ⟨j, h1, h2, h3, h4, h5⟩ := atI_get he
  obtain ⟨w, ew, rw'⟩ := r.get h2
  have hl := r.length
  have hn := line63
  have fin : EP X pins σ Q w s := ⟨z, H, I, rw', q⟩
  by_cases h0 : 0 ≤ i
  · have hj : i.toNat = j := by
      rw [seqIndex_of h0 h5] at h1
      exact Option.some.inj h1
    exact item_listR pl.isList h0 (by omega) (by rw [hj]; simpa using ew) fin hs
  · have hj : (i + (its.toArray.size : Int)).toNat = j := by
      rw [seqIndex_neg (by omega) h4] at h1
      rw [List.size_toArray, ← hl]
      exact Option.some.inj h1
    exact subscriptTail_builtinR (x := w) pl.isList.typeIs slot_list_getitem.lookup
      (wpAny_getItem_list_neg (Q := fun r s' => r = w ∧ EP X pins σ Q r s') pl.isList (by omega) (by rw [List.size_toArray] <;> omega) (by omega) (by rw [hj]; simpa using ew) ⟨rfl, fin⟩) hs
theorem ix_tup : IxR X (rIxT X.K) := by
  intro value slice pins s σ H x y v u Q I rx ry h hs
  obtain ⟨p, xs, i, z, rfl, rfl, hq, he, q⟩ := h
  cases rx
  obtain ⟨t, rfl⟩ := ry
  obtain ⟨its, r, pl, hz⟩ := I.tuple hq
  obtain ⟨j, h1, h2, h3, h4, h5⟩ := atI_get he
  obtain ⟨w, ew, rw'⟩ := r.get h2
  have hl := r.length
  have hn := line63
  have fin : EP X pins σ Q w s := ⟨z, H, I, rw', q⟩
  exact subscriptTail_builtinR (x := w) pl.typeIs slot_tuple_getitem.lookup
    (getItem_tuple (j := j) (Q := fun r s' => r = w ∧ EP X pins σ Q r s') pl (by omega) (by omega) (by rw [List.size_toArray, ← hl]; exact h1) (by simpa using ew) ⟨rfl, fin⟩) hs
/-! ### xs[i] = v, any sign -/
/-- the list's object behind a store -/
theorem mapSeq_set (its : List Value) (n j : Nat) (u : Value) : Obj.mapSeq (·.setIfInBounds j u) { cls := .type "list", data := .seq its.toArray n } = { cls := .type "list", data := .seq (its.set j u).toArray n } := by
  simp [Obj.mapSeq]
theorem Inv.lst {pins : List (Addr × Obj)} {σ : St} {H : Hp} {s : Shared} {p : Addr} {xs : List V} (I : Inv X pins σ H s) (h : H p = some (.lst xs)) :
    ∃ (its : List Value) (n : Nat), Vals xs its ∧ s.heap.get? p = some { cls := .type "list", data := .seq its.toArray n } ∧ xs.length ≤ sizeLine := by
  obtain ⟨z, its, n, r, e⟩ := I.hok p _ h
  exact ⟨its, n, r, e, z⟩
/-- the list at p is written by an update of its object -/
theorem Inv.lstUpd {pins : List (Addr × Obj)} {σ : St} {H : Hp} {s : Shared} {p : Addr} {xs ys : List V} {its its' : List Value} {n n' : Nat} {f : Obj → Obj} (I : Inv X pins σ H s) (h : H p = some (.lst xs))
    (ho : s.heap.get? p = some { cls := .type "list", data := .seq its.toArray n }) (hf : f { cls := .type "list", data := .seq its.toArray n } = { cls := .type "list", data := .seq its'.toArray n' }) (r : Vals ys its') (hz : ys.length ≤ sizeLine) (t : Nat) :
    Inv X pins σ (upd H p (.lst ys)) { s with heap := s.heap.update p f, toks := t } := by
  have e : (s.heap.update p f).get? p = some { cls := .type "list", data := .seq its'.toArray n' } := by
    rw [Heap.get?_update_self f ho (by rw [hf] <;> rfl), hf]
  refine I.write (x := p) (e := p) (by rw [h]; trivial) (.inl rfl) (fun b u hb q => (Heap.get?_update_other _ _ (Ne.symm hb)).trans q) ⟨_, e⟩ ?_
  exact ⟨hz, its', n', r, e⟩
def rSetL : V → V → V → Hp → (Hp → Prop) → Prop := fun o i v H Q => ∃ p xs k j, o = .ref p ∧ i = .int k ∧ H p = some (.lst xs) ∧ ixN xs.length k = some j ∧ Q (upd H p (.lst (xs.set j v)))
theorem set_list : PSet X rSetL := by
  intro pins s σ H o i v ov iv u Q I ro ri rv h
  obtain ⟨p, xs, k, j, rfl, rfl, hp, hj, q⟩ := h
  cases ro
  obtain ⟨t, rfl⟩ := ri
  obtain ⟨its, n, r, ho, hz⟩ := I.lst hp
  obtain ⟨h1, h2, h3, h4⟩ := ixN_seq hj
  have hl := r.length
  have hn := line63
  have I' : Inv X pins σ (upd H p (.lst (xs.set j v))) { s with heap := s.heap.update p (Obj.mapSeq (·.setIfInBounds j u)) } :=
    I.lstUpd hp ho (mapSeq_set its n j u) (r.set rv j) (by rw [List.length_set]; exact hz) s.toks
  by_cases h0 : 0 ≤ k
  · have hk : k.toNat = j := by
      rw [seqIndex_of h0 h4] at h1
      exact Option.some.inj h1
    exact PySem.W.ki_setAt ho h0 (by omega) (by rw [List.size_toArray, ← hl]; exact h4) (by rw [hk]; exact ⟨_, I', q⟩)
  · have hk : (k + (its.toArray.size : Int)).toNat = j := by
      rw [seqIndex_neg (by omega) h3] at h1
      rw [List.size_toArray, ← hl]
      exact Option.some.inj h1
    exact PySem.W.ki_setBack ho (by omega) (by rw [List.size_toArray, ← hl]; exact h3) (by omega) (by rw [hk]; exact ⟨_, I', q⟩)

/-! ### slices -/
theorem slice_bounds (lo hi : Option Int) (n : Nat) : (sliceBounds lo hi none n).1 = ((HT.sIx n 0 lo : Nat) : Int) ∧ (sliceBounds lo hi none n).2.1 = ((HT.sIx n n hi : Nat) : Int) ∧ (sliceBounds lo hi none n).2.2 = 1 := by
  refine ⟨?_, ?_, rfl⟩
  · cases lo with
    | none => simp [sliceBounds, HT.sIx]
    | some i =>
      simp only [sliceBounds, HT.sIx, Option.getD_none, show (1 : Int) > 0 by decide, if_true]
      by_cases h : i < 0
      · simp only [h, if_true] <;> omega
      · simp only [h, if_false] <;> omega
  · cases hi with
    | none => simp [sliceBounds, HT.sIx]
    | some i =>
      simp only [sliceBounds, HT.sIx, Option.getD_none, show (1 : Int) > 0 by decide, if_true]
      by_cases h : i < 0
      · simp only [h, if_true] <;> omega
      · simp only [h, if_false] <;> omega
theorem slicePick_cut (its : List Value) (lo hi : Option Int) : slicePick its.toArray lo hi none = ((its.drop (HT.sIx its.length 0 lo)).take (HT.sIx its.length its.length hi - HT.sIx its.length 0 lo)).toArray := by
  obtain ⟨h1, h2, h3⟩ := slice_bounds lo hi its.toArray.size
  unfold slicePick
  rw [h1, h2, h3]
  simp only [sliceRange_one, pick_run, List.size_toArray] <;> rfl
/-- xs[lo:hi] of a list: a new list -/
def rSlL (K : PySem.W.Frag) : V → Option Int → Option Int → Hp → VK → Prop := fun x lo hi H Q => ∃ a xs, x = .ref a ∧ SqL K H a xs ∧ ∀ p, H p = none → Q (.ref p) (upd H p (.lst (cutV xs lo hi)))
theorem sl_list : SlR X (rSlL X.K) := by
  intro pins s σ H x v vl vu lo hi sl Q I rx hs pl pu h
  obtain ⟨a, xs, rfl, hx, q⟩ := h
  cases rx
  obtain ⟨its, r, ht, hz⟩ := I.list hx
  have hlen := r.length
  refine ⟨"list", _, slot_list_getitem.lookup, ht.isList.typeIs, ?_⟩
  refine wpAny_getItem_list_slice ht.isList hs pl pu .none (by simp) ?_ (by rw [List.size_toArray] <;> omega)
  rw [slicePick_cut, ← hlen]
  refine ⟨.ref s.heap.objs.size, _, I.laid (t' := s.toks) (o := .lst (cutV xs lo hi)) (fun b ob q => Heap.get?_push_of_some _ q) (Nat.le_refl _) ?_, rfl, q _ (I.hok.fresh (Nat.le_refl _))⟩
  exact ⟨Nat.le_trans (cutV_length xs lo hi) hz, _, 0, (r.drop (HT.sIx xs.length 0 lo)).take (HT.sIx xs.length xs.length hi - HT.sIx xs.length 0 lo), Heap.get?_push_size _ rfl⟩

/-! ### in, not in: flat items -/
/-! ### len, list(x), tuple(x) of any list or tuple that is read -/
theorem call_len_seq : CallR X (.builtin "len") (fun xs H Q => ∃ p ys, xs = [.ref p] ∧ (SqL X.K H p ys ∨ SqT X.K H p ys) ∧ Q (.int ys.length) H) := by
  intro pins s σ H xs us Q I r h
  obtain ⟨p, ys, rfl, hq, q⟩ := h
  obtain ⟨u, rfl, rx⟩ := vals1 r
  cases rx
  have hn := line63
  rcases hq with hq | hq
  · obtain ⟨its, r', pl, hz⟩ := I.list hq
    have hlen := r'.length
    exact Calls.call_len_list pl.isList (by simp only [List.size_toArray] <;> omega) ⟨.int ys.length, H, I.tok _, ⟨s.toks + 1, by rw [List.size_toArray, hlen]⟩, q⟩
  · obtain ⟨its, r', pl, hz⟩ := I.tuple hq
    have hlen := r'.length
    exact len_tuple pl (by simp only [List.size_toArray] <;> omega) ⟨.int ys.length, H, I.tok _, ⟨s.toks + 1, by rw [List.size_toArray, hlen]⟩, q⟩
theorem call_list_of : CallR X (.type "list") (fun xs H Q => ∃ p ys, xs = [.ref p] ∧ (SqL X.K H p ys ∨ SqT X.K H p ys) ∧ ∀ l, H l = none → Q (.ref l) (upd H l (.lst ys))) := by
  intro pins s σ H xs us Q I r h
  obtain ⟨p, ys, rfl, hq, q⟩ := h
  obtain ⟨u, rfl, rx⟩ := vals1 r
  cases rx
  have fin : ∀ (its : List Value), Vals ys its → ys.length ≤ sizeLine → ∀ (h' : Heap) (c' : Nat), (∀ b o', s.heap.get? b = some o' → h'.get? b = some o') →
      h'.get? s.heap.objs.size = some { cls := .type "list", dict := none, data := .seq its.toArray c', slots := #[] } → EP X pins σ Q (.ref s.heap.objs.size) { s with heap := h' } := fun its r' hz h' c' kp e =>
    ⟨.ref s.heap.objs.size, _, I.laid (t' := s.toks) kp (Nat.le_refl _) (show ObjOk X.prog X.w _ h' _ (.lst ys) from ⟨hz, its, c', r', e⟩), rfl, q _ (I.hok.fresh (Nat.le_refl _))⟩
  rcases hq with hq | hq
  · obtain ⟨its, r', pl, hz⟩ := I.list hq
    have hlen := r'.length
    obtain ⟨o, ho, hc, n, hd⟩ := pl.isList
    exact call_list_seq p (.inl rfl) ho hc hd (fun h' c' kp e => fin its r' hz h' c' kp e) (by simp only [List.size_toArray] <;> omega)
  · obtain ⟨its, r', pl, hz⟩ := I.tuple hq
    have hlen := r'.length
    obtain ⟨o, ho, hc, n, hd⟩ := pl
    exact call_list_seq p (.inr rfl) ho hc hd (fun h' c' kp e => fin its r' hz h' c' kp e) (by simp only [List.size_toArray] <;> omega)
/-! ### the call of a builtin's method: o.m(..) -/
/-- the value is of that builtin type -/
def tyV (K : PySem.W.Frag) (T : String) (x : V) (H : Hp) : Prop := match x with
  | .str _ => T = "str"
  | .int _ => T = "int"
  | .ref p => (T = "list" ∧ ∃ xs, SqL K H p xs) ∨ (T = "tuple" ∧ ∃ o, K.lookup p = some o ∧ o.cls = .type "tuple" ∧ o.dict = none) ∨
      (T = "dict" ∧ ((∃ kvs, H p = some (.dK kvs)) ∨ ∃ kvs, H p = some (.dT kvs))) ∨ (T = "set" ∧ ∃ S n, H p = some (.set S n))
  | _ => False
theorem tyV_is {pins : List (Addr × Obj)} {σ : St} {H : Hp} {s : Shared} {T : String} {x : V} {v : Value} (I : Inv X pins σ H s) (r : RelV x v) (ty : tyV X.K T x H) :
    s.TypeIs v T ∧ ∀ a, v = .ref a → ∃ ob, s.heap.get? a = some ob ∧ ob.dict = none := by
  cases x with
  | str z =>
    obtain ⟨t, rfl⟩ := r
    cases (show T = "str" from ty)
    exact ⟨typeIs_str s z t, fun _ e => nomatch e⟩
  | int i =>
    obtain ⟨t, rfl⟩ := r
    cases (show T = "int" from ty)
    exact ⟨typeIs_int s i t, fun _ e => nomatch e⟩
  | ref p =>
    cases r
    rcases ty with ⟨rfl, xs, hq⟩ | ⟨rfl, o, hk, hc, hd⟩ | ⟨rfl, hk⟩ | ⟨rfl, S, n, hk⟩
    · obtain ⟨its, _, pl, _⟩ := I.list hq
      refine ⟨pl.isList.typeIs, fun a e => ?_⟩
      cases e
      obtain ⟨o, n, e, c, hd, _⟩ := pl
      exact ⟨o, e, hd⟩
    · refine ⟨⟨o, I.kIn p o hk, hc⟩, fun a e => ?_⟩
      cases e
      exact ⟨o, I.kIn _ o hk, hd⟩
    · have z : ∃ o, s.heap.get? p = some o ∧ o.ExactDict := by
        rcases hk with ⟨kvs, hk⟩ | ⟨kvs, hk⟩
        · obtain ⟨_, _, _, _, o, _, _, e, ex, _⟩ := I.hok p _ hk
          exact ⟨o, e, ex⟩
        · obtain ⟨_, _, _, _, o, _, _, e, ex, _⟩ := I.hok p _ hk
          exact ⟨o, e, ex⟩
      obtain ⟨o, e, ex⟩ := z
      refine ⟨⟨o, e, ex.1⟩, fun a e2 => ?_⟩
      cases e2
      exact ⟨o, e, ex.2.1⟩
    · obtain ⟨o, _, _, _, e, ex, _⟩ := I.hok p _ hk
      refine ⟨⟨o, e, ex.1⟩, fun a e2 => ?_⟩
      cases e2
      exact ⟨o, e, ex.2.1⟩
  | _ => exact False.elim ty
def tBM0 (K : PySem.W.Frag) (T : String) (r : V → List V → Hp → VK → Prop) (to : TE) : TE := fun σ H Q => to σ H fun x H1 => tyV K T x H1 ∧ r x [] H1 Q
def tBM (K : PySem.W.Frag) (T : String) (r : V → List V → Hp → VK → Prop) (to : TE) (t : TA) : TE := fun σ H Q => to σ H fun x H1 => tyV K T x H1 ∧ t σ H1 fun xs H2 => r x xs H2 Q
variable {o e : Expr} {es : List Expr} {to : TE} {t : TA} {name : Str} {apos cpos : Pos} {T id : String} {r : V → List V → Hp → VK → Prop}
theorem pe_bm0 (pa : PlainAttrs T) (slot : Slot T name id) (hty : typeOf (.builtin id) = pure (.type "method_descriptor")) (hm : MtR X id r) (ho : PE X o to)
    (hbase : attributeBase o name X.env (eval o X.env) = eval o X.env := by rfl) (hline : (apos.endLine == cpos.line) = true := by rfl) : PE X (.Call (.Attribute o name apos) [] [] cpos) (tBM0 X.K T r to) := by
  intro pins s σ H Q I h
  refine wpAny_Call_method0_late hbase hline (thn (ho pins s σ H _ I h) fun v s1 ⟨x, H1, I1, r1, ty, q1⟩ => ?_)
  obtain ⟨h1, h2⟩ := tyV_is I1 r1 ty
  exact ⟨T, id, pa, slot, hty, h1, h2, Calls.callWith_builtin rfl (PySem.evalArgs_none (hm pins s1 σ H1 x [] v [] Q I1 r1 .nil q1))⟩
theorem pe_bm (pa : PlainAttrs T) (slot : Slot T name id) (hty : typeOf (.builtin id) = pure (.type "method_descriptor")) (hm : MtR X id r) (ho : PE X o to) (ha : PA X (e :: es) t)
    (hbase : attributeBase o name X.env (eval o X.env) = eval o X.env := by rfl)
    (hfew : ((backTo cpos (starEach (e :: es) X.env)).all (fun x => !x.1) && (backToKw cpos (keywordEach [] X.env)).all (fun x => x.1.isSome)
      && decide ((e :: es).length + ([] : List Keyword).length + (if ([] : List Keyword).isEmpty then 0 else 1) < 30)) = true := by rfl)
    (hline : (apos.endLine == cpos.line) = true := by rfl) (hs : starEach (e :: es) X.env = (false, eval e X.env) :: starEach es X.env := by rfl) (hplain : (backTo cpos (starEach es X.env)).any (·.1) = false := by rfl) :
    PE X (.Call (.Attribute o name apos) (e :: es) [] cpos) (tBM X.K T r to t) := by
  intro pins s σ H Q I h
  refine wpAny_Call_method_late hbase hfew hline rfl (thn (ho pins s σ H _ I h) fun v s1 ⟨x, H1, I1, r1, ty, q1⟩ => ?_)
  obtain ⟨h1, h2⟩ := tyV_is I1 r1 ty
  refine ⟨T, id, pa, slot, hty, h1, h2, ?_⟩
  have hA := ha cpos pins s1 σ H1 _ I1 q1
  rw [hs] at hA ⊢
  refine Calls.callWith_builtin (by show (false || (backTo cpos (starEach es X.env)).any (·.1)) = false; rw [hplain] <;> rfl) (Calls.evalArgs_plain ?_)
  exact thn hA fun us s2 ⟨vs, H2, I2, r2, q2⟩ => hm pins s2 σ H2 x vs v us Q I2 r1 r2 q2
/- xs.append(e), list.index on a module's tuple .. are MtR facts of 06m -/
end
end L2

namespace L2
open PySem PySem.Spec PyProof.Rows

def MtM (X : Cx) (id : String) (r : V → List V → Hp → VK → Prop) : Prop :=
  ∀ (pins : List (Addr × Obj)) (s : Shared) (σ : St) (H : Hp) (x : V) (xs : List V) (v : Value) (us : List Value) (Q : VK), Inv X pins σ H s → RelV x v → Vals xs us → r x xs H Q →
    wpAny (model X.prog X.w) X.A (call (.builtin id) (v :: us)) (EP X pins σ Q) X.xe s

/-! ### lists of values -/
theorem Vals.one : ∀ {x : V} {us : List Value}, Vals [x] us → ∃ u, us = [u] ∧ RelV x u
  | _, _, .cons r .nil => ⟨_, rfl, r⟩
theorem Vals.zero : ∀ {us : List Value}, Vals [] us → us = []
  | _, .nil => rfl
theorem Vals.dropLast {xs : List V} {us : List Value} (h : Vals xs us) : Vals xs.dropLast us.dropLast := by
  induction h with
  | nil => exact .nil
  | cons r t ih =>
    cases t with
    | nil => exact .nil
    | cons q t' => exact .cons r ih
theorem Vals.reverse {xs : List V} {us : List Value} (h : Vals xs us) : Vals xs.reverse us.reverse := by
  induction h with
  | nil => exact .nil
  | cons r t ih => rw [List.reverse_cons, List.reverse_cons]; exact Vals.append ih (.cons r .nil)
theorem Vals.rep {xs : List V} {us : List Value} (h : Vals xs us) : ∀ k : Nat, Vals (List.replicate k xs).flatten (List.replicate k us).flatten
  | 0 => .nil
  | k + 1 => by
    rw [List.replicate_succ, List.replicate_succ, List.flatten_cons, List.flatten_cons]
    exact Vals.append h (Vals.rep h k)
theorem erase_last {α : Type} (l : List α) : l.eraseIdx (l.length - 1) = l.dropLast := by
  induction l with
  | nil => rfl
  | cons a r ih =>
    cases r with
    | nil => rfl
    | cons b r =>
      have e : (a :: b :: r).length - 1 = ((b :: r).length - 1) + 1 := by
        have h1 : (a :: b :: r).length = r.length + 2 := rfl
        have h2 : (b :: r).length = r.length + 1 := rfl
        omega
      rw [e, List.eraseIdx_cons_succ, ih]
      all_goals rfl
theorem foldl_rep (its : List Value) : ∀ (k : Nat) (acc : List Value),
    List.foldl (fun x1 x2 => x1 ++ x2) acc.toArray (List.replicate k its.toArray) = (acc ++ (List.replicate k its).flatten).toArray
  | 0, acc => by simp
  | k + 1, acc => by
    have e : acc.toArray ++ its.toArray = (acc ++ its).toArray := by simp
    have e2 : (acc ++ its) ++ (List.replicate k its).flatten = acc ++ (List.replicate (k + 1) its).flatten := by
      rw [List.replicate_succ, List.flatten_cons, List.append_assoc]
    rw [← e2, ← foldl_rep its k (acc ++ its), ← e, List.replicate_succ, List.foldl_cons]

section
variable {X : Cx} {pins : List (Addr × Obj)} {σ : St} {H : Hp} {s : Shared} {l b : Addr} {xs ys zs : List V}

/-! ### the two steps: a tracked list is rewritten, a new list is laid -/
theorem Inv.lset {its its' : List Value} {n : Nat} {f : Array Value → Array Value} {t' : Nat} (I : Inv X pins σ H s) (hH : H l = some (.lst xs))
    (e : s.heap.get? l = some { cls := .type "list", data := .seq its.toArray n }) (hf : f its.toArray = its'.toArray) (hv : Vals ys its') (hz : ys.length ≤ sizeLine) :
    Inv X pins σ (upd H l (.lst ys)) { s with heap := s.heap.update l (Obj.mapSeq f), toks := t' } := by
  have q := PySem.IsL.update e f
  rw [hf] at q
  refine I.write (x := l) (e := l) (by rw [hH]; exact trivial) (.inl rfl) (fun b' u hb hu => (Heap.get?_update_other s.heap (Obj.mapSeq f) (Ne.symm hb)).trans hu) ⟨_, q⟩ ?_
  exact ⟨hz, its', _, hv, q⟩
theorem Inv.lnew {its : List Value} {t' : Nat} (I : Inv X pins σ H s) (hv : Vals ys its) (hz : ys.length ≤ sizeLine) :
    Inv X pins σ (upd H s.heap.objs.size (.lst ys)) { s with heap := s.heap.push { cls := .type "list", data := .seq its.toArray }, toks := t' } :=
  I.laid (fun _ _ q => Heap.get?_push_of_some _ q) (Nat.le_refl _) ⟨hz, its, 0, hv, Heap.get?_push_size _ rfl⟩
theorem Inv.fresh (I : Inv X pins σ H s) : H s.heap.objs.size = none := I.hok.fresh (Nat.le_refl _)
theorem Inv.lstM (I : Inv X pins σ H s) (hH : H l = some (.lst xs)) : xs.length ≤ sizeLine ∧ ∃ (its : List Value) (n : Nat), Vals xs its ∧ xs.length = its.length ∧ s.heap.get? l = some { cls := .type "list", data := .seq its.toArray n } := by
  obtain ⟨z, its, n, r, e⟩ := I.hok l _ hH
  exact ⟨z, its, n, r, r.length, e⟩

theorem notLongL {n : Nat} (h : n ≤ sizeLine) : Builtin.List.listTooLong n = false := by
  unfold Builtin.List.listTooLong
  exact decide_eq_false (by omega)
end

section
variable {X : Cx}

/-! ### methods -/
def rAppend : V → List V → Hp → VK → Prop := fun x vs H Q => ∃ l xs y, x = .ref l ∧ vs = [y] ∧ H l = some (.lst xs) ∧ xs.length < sizeLine ∧ Q .non (upd H l (.lst (xs ++ [y])))
theorem mt_append : MtM X "list.append" rAppend := by
  intro pins s σ H x vs v us Q I rx rv h
  obtain ⟨l, xs, y, rfl, rfl, hH, hz, q⟩ := h
  cases rx
  obtain ⟨u, rfl, ru⟩ := rv.one
  obtain ⟨z, its, n, r, hl, e⟩ := I.lstM hH
  refine call_meets F.slot_list_append ⟨_, e, rfl⟩ F.entry_list_append (F.args_list_append_2 _ _) (PySem.list_append l its.toArray n u (by rw [List.size_toArray]; omega)) ⟨e, ?_⟩
  refine ⟨.non, _, I.lset (its' := its ++ [u]) hH e (by simp) (r.append (.cons ru .nil)) ?_, rfl, q⟩
  rw [List.length_append, List.length_singleton]
  omega

def rExtend : V → List V → Hp → VK → Prop := fun x vs H Q => ∃ l b xs zs, x = .ref l ∧ vs = [.ref b] ∧ H l = some (.lst xs) ∧ H b = some (.lst zs) ∧ xs.length + zs.length ≤ sizeLine ∧ Q .non (upd H l (.lst (xs ++ zs)))
theorem mt_extend : MtM X "list.extend" rExtend := by
  intro pins s σ H x vs v us Q I rx rv h
  obtain ⟨l, b, xs, zs, rfl, rfl, hH, hB, hz, q⟩ := h
  cases rx
  obtain ⟨u, rfl, ru⟩ := rv.one
  cases ru
  obtain ⟨z, its, n, r, hl, e⟩ := I.lstM hH
  obtain ⟨z2, its2, n2, r2, hl2, e2⟩ := I.lstM hB
  have hsz : its.toArray.size + its2.toArray.size ≤ sizeLine := by rw [List.size_toArray, List.size_toArray]; omega
  have hlong : ¬ (!its.toArray.isEmpty && Builtin.List.listTooLong (its.toArray.size + its2.toArray.size)) = true := by
    rw [notLongL hsz, Bool.and_false]
    exact Bool.false_ne_true
  refine call_meets F.slot_list_extend ⟨_, e, rfl⟩ F.entry_list_extend (F.args_list_extend_2 _ _)
    (AutoSeq1.list_extend_list_list_0 l its.toArray n b its2.toArray n2 hlong (by rw [List.size_toArray]; omega) (by omega)) ⟨e, e2, ?_⟩
  refine ⟨.non, _, I.lset (its' := its ++ its2) hH e (by simp) (r.append r2) ?_, rfl, q⟩
  rw [List.length_append]
  omega

def rPop : V → List V → Hp → VK → Prop := fun x vs H Q => ∃ l xs y, x = .ref l ∧ vs = [] ∧ H l = some (.lst xs) ∧ xs[xs.length - 1]? = some y ∧ Q y (upd H l (.lst xs.dropLast))
theorem mt_pop : MtM X "list.pop" rPop := by
  intro pins s σ H x vs v us Q I rx rv h
  obtain ⟨l, xs, y, rfl, rfl, hH, hy, q⟩ := h
  cases rx
  have hus := rv.zero
  subst hus
  obtain ⟨z, its, n, r, hl, e⟩ := I.lstM hH
  obtain ⟨u, hu, ru⟩ := r.get hy
  have hy' : its.toArray[its.toArray.size - 1]? = some u := by
    show its.toArray[its.length - 1]? = some u
    rw [← Array.getElem?_toList, ← hl]
    exact hu
  refine call_meets F.slot_list_pop ⟨_, e, rfl⟩ F.entry_list_pop (F.args_list_pop_1 _) (MeetsSeq.list_pop_last l its.toArray n u hy' (by rw [List.size_toArray]; omega)) ⟨e, ?_⟩
  refine ⟨y, _, I.lset (its' := its.dropLast) hH e ?_ r.dropLast ?_, ru, q⟩
  · show its.toArray.eraseIdxIfInBounds (its.toArray.size - 1) = its.dropLast.toArray
    rw [List.size_toArray, List.eraseIdxIfInBounds_toArray, erase_last]
  · rw [List.length_dropLast]
    omega

def rReverse : V → List V → Hp → VK → Prop := fun x vs H Q => ∃ l xs, x = .ref l ∧ vs = [] ∧ H l = some (.lst xs) ∧ Q .non (upd H l (.lst xs.reverse))
theorem mt_reverse : MtM X "list.reverse" rReverse := by
  intro pins s σ H x vs v us Q I rx rv h
  obtain ⟨l, xs, rfl, rfl, hH, q⟩ := h
  cases rx
  have hus := rv.zero
  subst hus
  obtain ⟨z, its, n, r, hl, e⟩ := I.lstM hH
  refine call_meets F.slot_list_reverse ⟨_, e, rfl⟩ F.entry_list_reverse (F.args_list_reverse_1 _) (AutoSeq1.list_reverse_list_0 l its.toArray n (by rw [List.size_toArray]; omega)) ⟨e, ?_⟩
  refine ⟨.non, _, I.lset (its' := its.reverse) hH e (by simp) r.reverse ?_, rfl, q⟩
  rw [List.length_reverse]
  omega

/-! ### list + list, list += list, list * int -/
def rCat : R2 := fun x y H Q => ∃ l b xs zs, x = .ref l ∧ y = .ref b ∧ H l = some (.lst xs) ∧ H b = some (.lst zs) ∧ xs.length + zs.length ≤ sizeLine ∧ ∀ p, H p = none → Q (.ref p) (upd H p (.lst (xs ++ zs)))
theorem op_cat : OpR X (binaryOp .Add) rCat := by
  intro pins s σ H x y v u Q I rx ry h
  obtain ⟨l, b, xs, zs, rfl, rfl, hH, hB, hz, q⟩ := h
  cases rx
  cases ry
  obtain ⟨z, its, n, r, hl, e⟩ := I.lstM hH
  obtain ⟨z2, its2, n2, r2, hl2, e2⟩ := I.lstM hB
  refine PySem.P.add_list e e2 ?_ (by rw [List.size_toArray, List.size_toArray]; omega)
  have ea : its.toArray ++ its2.toArray = (its ++ its2).toArray := by simp
  rw [ea]
  exact ⟨.ref _, _, I.lnew (t' := s.toks) (r.append r2) (by rw [List.length_append]; omega), rfl, q _ I.fresh⟩
/-- a list times an int (a negative one is nothing) -/
def rRep : R2 := fun x y H Q => ∃ l k xs, x = .ref l ∧ y = .int k ∧ H l = some (.lst xs) ∧ -(2 ^ 63) ≤ k ∧ k < 2 ^ 63 ∧ xs.length * k.toNat ≤ sizeLine ∧
  ∀ p, H p = none → Q (.ref p) (upd H p (.lst (List.replicate k.toNat xs).flatten))
theorem len_rep {α : Type} (xs : List α) (k : Nat) : (List.replicate k xs).flatten.length = k * xs.length := by
  induction k with
  | zero => simp
  | succ k ih => rw [List.replicate_succ, List.flatten_cons, List.length_append, ih, Nat.succ_mul, Nat.add_comm]
theorem op_rep : OpR X (binaryOp .Mult) rRep := by
  intro pins s σ H x y v u Q I rx ry h
  obtain ⟨l, k, xs, rfl, rfl, hH, h1, h2, hz, q⟩ := h
  cases rx
  obtain ⟨t, rfl⟩ := ry
  obtain ⟨z, its, n, r, hl, e⟩ := I.lstM hH
  have hlen : its.toArray.size * k.toNat ≤ sizeLine := by rw [List.size_toArray, ← hl]; exact hz
  have hcap : ¬ its.toArray.size * k.toNat > (2 ^ 63 - 1) / 8 := by
    have : (sizeLine : Nat) ≤ (2 ^ 63 - 1) / 8 := by decide
    omega
  have hfit : ¬ (!Builtin.List.listFitsIndex k) = true := by
    rw [fitsIndex_both h1 h2]
    exact Bool.false_ne_true
  have hlong : ¬ Builtin.List.listTooLong (its.toArray.size * k.toNat) = true := by
    rw [notLongL hlen]
    exact Bool.false_ne_true
  have hnew : List.foldl (fun x1 x2 => x1 ++ x2) #[] (List.replicate (if its.toArray.isEmpty = true then 0 else k.toNat) its.toArray) = (List.replicate k.toNat its).flatten.toArray := by
    have f0 : ∀ m : Nat, List.foldl (fun x1 x2 => x1 ++ x2) #[] (List.replicate m its.toArray) = (List.replicate m its).flatten.toArray := fun m => by
      have := foldl_rep its m []
      rw [List.nil_append] at this
      exact this
    rw [f0]
    cases its with
    | nil => simp
    | cons a r' => rw [if_neg (by simp)]
  refine wpAny_binaryOp_repeat_ref (T := "list") (U := "int") (by decide) ⟨_, e, rfl⟩ (fun s' => typeIs_int s' k t) noFill_list_mul F.fills_int_mul F.slot_int_rmul repeat_list F.slot_int_index.lookup
    (call_meets F.slot_int_rmul (typeIs_int s k t) F.entry_int_rmul (F.args_int_rmul_2 _ _) (int___rmul___int_list k t l its.toArray n)
      ⟨e, rfl, ⟨_, e, rfl⟩, call_meets F.slot_list_mul ⟨_, e, rfl⟩ F.entry_list_mul (F.args_list_mul_2 _ _) (AutoListH.list___mul___list_int_3 l its.toArray n k t hfit hcap hlong) ⟨e, ?_⟩⟩)
  rw [hnew]
  exact ⟨.ref _, _, I.lnew (t' := s.toks) (r.rep k.toNat) (by rw [len_rep, Nat.mul_comm]; exact hz), rfl, q _ I.fresh⟩

/-! ### del xs[i] -/
end

/-! ### xs[a:b] = ys -/
section
variable {prog : Program} {w : World} {A : Around} {E : Value → Shared → Prop} {s : Shared}
end

section
variable {X : Cx}
end
end L2

namespace L2
open PySem PySem.Spec PyProof.Rows

theorem Vals.ints : ∀ {ns : List Int} {us : List Value}, Vals (ns.map V.int) us → IntsAre us ns
  | [], us, h => by
    rw [List.map_nil] at h
    cases h
    exact IntsAre.nil
  | n :: ns, us, h => by
    rw [List.map_cons] at h
    cases h with
    | cons r t =>
      obtain ⟨k, rfl⟩ := r
      exact IntsAre.cons n k (Vals.ints t)
theorem Vals.ref1 {a : Addr} {us : List Value} (r : Vals [V.ref a] us) : us = [Value.ref a] := by
  cases r with
  | cons r t =>
    cases t
    cases r
    rfl
/-! ### the library's walks over a list of ints, kept objects alone -/
section
variable {prog : Program} {w : World} {A : Around} {E : Value → Shared → Prop} {s : Shared} {l : Addr} {its : List Value} {ns : List Int} {Q : Value → Shared → Prop}
theorem max_raw (hh : A.handled = none) (hl : s.heap.IsList l its.toArray) (hi : IntsAre its ns) (hne : 0 < ns.length)
    (h : ∀ h' tk M t', (∀ b o, s.heap.get? b = some o → h'.get? b = some o) → M ∈ ns → (∀ a, a ∈ ns → a ≤ M) → Q (.int M t') { s with heap := h', toks := tk }) : wpAny (model prog w) A (call (.builtin "max") [.ref l]) Q E s := by
  obtain ⟨xs, e⟩ := hi.allInts.items
  have hn : numsOf (intItems xs).toList = ns := by rw [← e]; exact hi.numsOf
  rw [nums_intItems] at hn
  subst hn
  rw [e] at hl
  have hsz : 0 < xs.size := by simpa using hne
  refine PySem.max_intList hh hl hsz fun v h' tk hv hk => ?_
  obtain ⟨t, rfl⟩ := intItems_at hv
  obtain ⟨h1, h2⟩ := argBest_gt (numAt xs) (xs.size - 1)
  refine h h' tk _ t hk ?_ fun a ha => ?_
  · rw [numAt_eq]; exact PySem.getD_mem (by rw [List.length_map, Array.length_toList]; omega)
  · obtain ⟨j, hj, rfl⟩ := mem_getD ha
    rw [List.length_map, Array.length_toList] at hj
    rw [← numAt_eq]; exact h2 j (by omega)
theorem min_raw (hh : A.handled = none) (hl : s.heap.IsList l its.toArray) (hi : IntsAre its ns) (hne : 0 < ns.length)
    (h : ∀ h' tk M t', (∀ b o, s.heap.get? b = some o → h'.get? b = some o) → M ∈ ns → (∀ a, a ∈ ns → M ≤ a) → Q (.int M t') { s with heap := h', toks := tk }) : wpAny (model prog w) A (call (.builtin "min") [.ref l]) Q E s := by
  obtain ⟨xs, e⟩ := hi.allInts.items
  have hn : numsOf (intItems xs).toList = ns := by rw [← e]; exact hi.numsOf
  rw [nums_intItems] at hn
  subst hn
  rw [e] at hl
  have hsz : 0 < xs.size := by simpa using hne
  refine PySem.min_intList hh hl hsz fun v h' tk hv hk => ?_
  obtain ⟨t, rfl⟩ := intItems_at hv
  obtain ⟨h1, h2⟩ := argBest_lt (numAt xs) (xs.size - 1)
  refine h h' tk _ t hk ?_ fun a ha => ?_
  · rw [numAt_eq]; exact PySem.getD_mem (by rw [List.length_map, Array.length_toList]; omega)
  · obtain ⟨j, hj, rfl⟩ := mem_getD ha
    rw [List.length_map, Array.length_toList] at hj
    rw [← numAt_eq]; exact h2 j (by omega)
end

/-! ### the calls, by values (CallR of 03t; MtR of 06l) -/
section
variable {X : Cx}
def rMin (K : PySem.W.Frag) : List V → Hp → VK → Prop := fun vs H Q => ∃ (a : Addr) (ns : List Int), vs = [V.ref a] ∧ SqL K H a (ns.map V.int) ∧ 0 < ns.length ∧ ∀ m, m ∈ ns → (∀ y, y ∈ ns → m ≤ y) → Q (.int m) H
theorem cr_min (hc : X.calm = true) : CallR X (.builtin "min") (rMin X.K) := by
  intro pins s σ H vs us Q I r h
  obtain ⟨a, ns, rfl, hs, hne, q⟩ := h
  obtain ⟨its, rv, hl, _⟩ := I.list hs
  rw [Vals.ref1 r]
  exact min_raw (I.ok.hd hc) hl.isList rv.ints hne fun h' tk m t' hk h1 h2 => ⟨.int _, H, I.kept hk, ⟨_, rfl⟩, q m h1 h2⟩

/-! sorted, sort (fewer than 64 items: the library's own bound) -/
end

/-! ### list.index, flat items -/
section
variable {X : Cx}
end

/-! ### type(x) of an own instance; is, is not of a module's class -/
section
variable {X : Cx}
end

/-! ### any(xs), all(xs) of a list of bools -/
section
variable {X : Cx}
end

/-! ### == and != of data at any depth: none, bools, ints, texts, lists, tuples -/
section
variable {X : Cx} {pins : List (Addr × Obj)} {σ : St} {H : Hp} {s : Shared}
end
section
variable {X : Cx}
end
end L2

namespace L2
open PySem PySem.Spec PyProof.Rows
abbrev CellAt (h : Heap) (c : Addr) (v : Option Value) : Prop := h.IsCell c v
def relS (scope sc : Scope) : Scope :=
  { scope with names := scope.names.map fun (n, k) => if (k == .free && sc.kind == .function && sc.names.lookup n == some .cell) then (n, .cell) else (n, k) }

def cloFrom (cells : List (Str × Addr)) : List (Str × NameKind) → List (Str × Addr) → List (Str × Addr)
  | [], acc => acc
  | (n, k) :: r, acc => if k == .free then cloFrom cells r ((n, (cells.lookup n).getD 0) :: acc) else cloFrom cells r acc

theorem closure_loop (env : Env) (f : Str × NameKind → List (Str × Addr) → Sem (ForInStep (List (Str × Addr))))
    (hf : ∀ n k c, f (n, k) c = if k == .free then (do let a ← cellOf env n; pure (.yield ((n, a) :: c))) else pure (.yield c)) :
    ∀ (names : List (Str × NameKind)) (acc : List (Str × Addr)), (∀ y ∈ names, y.2 = .free → ∃ c, env.cells.lookup y.1 = some c) → forIn names acc f = pure (cloFrom env.cells names acc)
  | [], acc, _ => by rw [List.forIn_nil]; rfl
  | (n, k) :: r, acc, h => by
    rw [List.forIn_cons, hf]
    have ih := fun acc => closure_loop env f hf r acc fun y hy => h y (List.mem_cons_of_mem _ hy)
    unfold cloFrom
    by_cases hk : (k == NameKind.free) = true
    · rw [if_pos hk, if_pos hk]
      obtain ⟨c, hc⟩ := h (n, k) List.mem_cons_self (by simpa using hk)
      have e : cellOf env n = pure c := by unfold cellOf; rw [hc]
      rw [e]
      have e2 : (env.cells.lookup n).getD 0 = c := by rw [hc]; rfl
      rw [e2]
      exact ih _
    · rw [if_neg hk, if_neg hk]
      exact ih _
theorem closure_ok {scope : Scope} {env : Env} (h : ∀ y ∈ scope.names, y.2 = .free → ∃ c, env.cells.lookup y.1 = some c) : closureFor scope env = pure (cloFrom env.cells scope.names []) := by
  simp only [closureFor]
  rw [closure_loop env _ (fun n k c => rfl) scope.names [] h]
  rfl

theorem mem_lookup {α : Type} : ∀ {l : List (Str × α)} {n : Str} {c : α}, (n, c) ∈ l → ∃ c', l.lookup n = some c'
  | (k, v) :: r, n, c, h => by
    rw [List.lookup_cons]
    cases hb : n == k with
    | true => exact ⟨_, rfl⟩
    | false =>
      rcases List.mem_cons.mp h with e | h
      · cases e; simp at hb
      · exact mem_lookup h

theorem cloFrom_mem {cells : List (Str × Addr)} : ∀ {names : List (Str × NameKind)} {acc : List (Str × Addr)} {n : Str} {c : Addr}, (n, c) ∈ cloFrom cells names acc → (n, c) ∈ acc ∨ ((n, .free) ∈ names ∧ c = (cells.lookup n).getD 0)
  | [], _, _, _, h => .inl h
  | (m, k) :: r, acc, n, c, h => by
    unfold cloFrom at h
    split at h
    · rename_i hk
      have hk : k = .free := by simpa using hk
      rcases cloFrom_mem h with h | ⟨h1, h2⟩
      · rcases List.mem_cons.mp h with e | h
        · cases e; exact .inr ⟨hk ▸ List.mem_cons_self, rfl⟩
        · exact .inl h
      · exact .inr ⟨List.mem_cons_of_mem _ h1, h2⟩
    · rcases cloFrom_mem h with h | ⟨h1, h2⟩
      · exact .inl h
      · exact .inr ⟨List.mem_cons_of_mem _ h1, h2⟩
theorem cloFrom_acc {cells : List (Str × Addr)} : ∀ {names : List (Str × NameKind)} {acc : List (Str × Addr)} {p : Str × Addr}, p ∈ acc → p ∈ cloFrom cells names acc
  | [], _, _, h => h
  | (m, k) :: r, acc, p, h => by
    unfold cloFrom
    split
    · exact cloFrom_acc (List.mem_cons_of_mem _ h)
    · exact cloFrom_acc h
theorem cloFrom_has {cells : List (Str × Addr)} : ∀ {names : List (Str × NameKind)} {acc : List (Str × Addr)} {n : Str}, (n, .free) ∈ names → (n, (cells.lookup n).getD 0) ∈ cloFrom cells names acc
  | (m, k) :: r, acc, n, h => by
    unfold cloFrom
    rcases List.mem_cons.mp h with e | h
    · cases e
      exact cloFrom_acc List.mem_cons_self
    · split
      · exact cloFrom_has h
      · exact cloFrom_has h

theorem cells_mem : ∀ {names : List (Str × NameKind)} {h : Heap} {acc : List (Str × Addr)} {x : Str} {c : Addr}, (x, c) ∈ cellsFrom h.objs.size names acc →
    (x, c) ∈ acc ∨ ((x, .cell) ∈ names ∧ h.objs.size ≤ c ∧ CellAt (pushCells h names) c none)
  | [], _, _, _, _, h => .inl h
  | (n, k) :: r, h, acc, x, c, hm => by
    unfold cellsFrom at hm
    unfold pushCells
    split at hm
    · rename_i hk
      rw [if_pos hk]
      have hk : k = .cell := by simpa using hk
      rw [← Heap.size_push h { cls := .type "cell", data := .cell none }] at hm
      rcases cells_mem hm with hm | ⟨h1, h2, h3⟩
      · rcases List.mem_cons.mp hm with e | hm
        · cases e
          exact .inr ⟨hk ▸ List.mem_cons_self, Nat.le_refl _, _, pushCells_keeps r _ _ _ (Heap.get?_push_size _ rfl), rfl⟩
        · exact .inl hm
      · rw [Heap.size_push] at h2
        exact .inr ⟨List.mem_cons_of_mem _ h1, Nat.le_of_succ_le h2, h3⟩
    · rename_i hk
      rw [if_neg hk]
      rcases cells_mem hm with hm | ⟨h1, h2, h3⟩
      · exact .inl hm
      · exact .inr ⟨List.mem_cons_of_mem _ h1, h2, h3⟩
theorem cells_acc : ∀ {names : List (Str × NameKind)} {n : Nat} {acc : List (Str × Addr)} {p : Str × Addr}, p ∈ acc → p ∈ cellsFrom n names acc
  | [], _, _, _, h => h
  | (m, k) :: r, n, acc, p, h => by
    unfold cellsFrom
    split
    · exact cells_acc (List.mem_cons_of_mem _ h)
    · exact cells_acc h
theorem cells_has : ∀ {names : List (Str × NameKind)} {n : Nat} {acc : List (Str × Addr)} {x : Str}, (x, .cell) ∈ names → ∃ c, (x, c) ∈ cellsFrom n names acc
  | (m, k) :: r, n, acc, x, h => by
    unfold cellsFrom
    rcases List.mem_cons.mp h with e | h
    · cases e
      exact ⟨n, cells_acc List.mem_cons_self⟩
    · split
      · exact cells_has h
      · exact cells_has h
theorem cells_inj : ∀ {names : List (Str × NameKind)} {h : Heap} {acc : List (Str × Addr)} {x y : Str} {c : Addr}, (∀ p ∈ acc, p.2 < h.objs.size) → (∀ x y c, (x, c) ∈ acc → (y, c) ∈ acc → x = y) →
    (x, c) ∈ cellsFrom h.objs.size names acc → (y, c) ∈ cellsFrom h.objs.size names acc → x = y
  | [], _, _, _, _, _, _, hi, h1, h2 => hi _ _ _ h1 h2
  | (n, k) :: r, h, acc, x, y, c, hl, hi, h1, h2 => by
    unfold cellsFrom at h1 h2
    split at h1
    · rename_i hk
      rw [if_pos hk] at h2
      rw [← Heap.size_push h { cls := .type "cell", data := .cell none }] at h1 h2
      refine cells_inj (h := h.push _) (fun p hp => ?_) (fun x y c a b => ?_) h1 h2
      · rw [Heap.size_push]
        rcases List.mem_cons.mp hp with rfl | hp
        · exact Nat.lt_succ_self _
        · exact Nat.lt_succ_of_lt (hl p hp)
      · rcases List.mem_cons.mp a with e | a <;> rcases List.mem_cons.mp b with e' | b
        · cases e; cases e'; rfl
        · cases e; exact absurd (hl _ b) (Nat.lt_irrefl _)
        · cases e'; exact absurd (hl _ a) (Nat.lt_irrefl _)
        · exact hi _ _ _ a b
    · rename_i hk
      rw [if_neg hk] at h2
      exact cells_inj hl hi h1 h2

theorem newEnv_comp {M : Model} {A : Around} {E : Value → Shared → Prop} {s : Shared} {scope : Scope} {globals : Addr} {closure : List (Str × Addr)} {qual : Str} {func : Option Addr} {code : Value} {around : Env} {builtins : Addr} {Q : Env → Shared → Prop}
    (h : Q (newEnv scope s.heap.objs.size globals (cellsFrom (s.heap.objs.size + 1) scope.names closure) qual func code (some around) builtins)
      { s with heap := pushCells (s.heap.push { cls := .type "dict", data := .dict #[] }) scope.names }) :
    wpAny M A (newFunctionEnv scope globals closure [] qual func code (some around) builtins) Q E s := by
  simp only [newFunctionEnv, Option.isSome_some, if_true]
  refine wpAny_bind (wpAny_alloc ?_)
  refine wpAny_bind (wpAny_layCells _ (fun n k c => rfl) scope.names closure _ _ ?_)
  rw [show ({ s with heap := s.heap.push { cls := .type "dict", data := .dict #[] } } : Shared).heap.objs.size = s.heap.objs.size + 1 from Heap.size_push ..]
  rw [List.forIn_nil]
  exact wpAny_bind (wpAny_pure (wpAny_pure h))

/-- every name of the written scope, in the scope that runs -/
theorem lookup_relS {sc : Scope} : ∀ {names : List (Str × NameKind)} {x : Str} {k : NameKind},
    (names.map fun (n, k) => if (k == NameKind.free && sc.kind == .function && sc.names.lookup n == some .cell) then (n, NameKind.cell) else (n, k)).lookup x = some k →
    ∃ k', names.lookup x = some k' ∧ (k = k' ∨ (k' = .free ∧ k = .cell))
  | [], _, _, h => by simp at h
  | (n, k₀) :: r, x, k, h => by
    have ih := @lookup_relS sc r x k
    have h' : List.lookup x ((if (k₀ == NameKind.free && sc.kind == .function && sc.names.lookup n == some .cell) = true then (n, NameKind.cell) else (n, k₀)) :: (r.map _)) = some k := h
    cases hx : x == n with
    | true =>
      simp only [List.lookup_cons, hx]
      by_cases hc : (k₀ == NameKind.free && sc.kind == .function && sc.names.lookup n == some .cell) = true
      · rw [if_pos hc] at h'
        simp only [List.lookup_cons, hx] at h'
        cases h'
        simp only [Bool.and_eq_true, beq_iff_eq] at hc
        exact ⟨k₀, rfl, .inr ⟨hc.1.1, rfl⟩⟩
      · rw [if_neg hc] at h'
        simp only [List.lookup_cons, hx] at h'
        cases h'
        exact ⟨_, rfl, .inl rfl⟩
    | false =>
      simp only [List.lookup_cons, hx]
      by_cases hc : (k₀ == NameKind.free && sc.kind == .function && sc.names.lookup n == some .cell) = true
      · rw [if_pos hc] at h'
        simp only [List.lookup_cons, hx] at h'
        exact ih h'
      · rw [if_neg hc] at h'
        simp only [List.lookup_cons, hx] at h'
        exact ih h'
/-- the names of a comprehension's block: its own (with their places in N), or captured -/
structure BlkOk (N : List Str) (sc scope : Scope) (own : List (Str × Nat)) : Prop where
  kind : scope.kind = .function
  uniq : ∀ y ∈ scope.names, scope.names.lookup y.1 = some y.2
  ix : ∀ p ∈ own, N[p.2]? = some p.1
  free : ∀ y ∈ scope.names, y.2 = .free → sc.names.lookup y.1 = some .cell ∨ sc.names.lookup y.1 = some .free
  own : ∀ y ∈ scope.names, y.2 = .local ∨ y.2 = .cell → y.1 ∈ own.map (·.1) ∨ y.1 ∉ N
/-- the slots of the block's own names forgotten -/
def wipe (σ : St) : List Nat → St
  | [] => σ
  | v :: vs => (wipe σ vs).set v none
theorem wipe_length (σ : St) : ∀ vs : List Nat, (wipe σ vs).length = σ.length
  | [] => rfl
  | v :: vs => by unfold wipe; rw [List.length_set, wipe_length σ vs]
theorem wipe_some {σ : St} {i : Nat} {x : V} : ∀ {vs : List Nat}, (wipe σ vs)[i]? = some (some x) → σ[i]? = some (some x) ∧ i ∉ vs
  | [], h => ⟨h, by simp⟩
  | v :: vs, h => by
    unfold wipe at h
    by_cases hi : v = i
    · subst hi
      by_cases hv : v < (wipe σ vs).length
      · rw [List.getElem?_set_self hv] at h; cases h
      · rw [List.getElem?_eq_none (by simpa using hv)] at h; cases h
    · rw [List.getElem?_set_ne hi] at h
      obtain ⟨h1, h2⟩ := wipe_some h
      exact ⟨h1, by simp only [List.mem_cons, not_or]; exact ⟨fun e => hi e.symm, h2⟩⟩

/-- the context of a block that starts at s, its iterator's objects at fp -/
abbrev Cx.blk (X : Cx) (s : Shared) (H : Hp) (scope : Scope) (cenv : Env) (fp : List Addr) : Cx := { X with s_0 := s, H_0 := H, env := cenv, outer := X.stack, ex := fp, fn := fun x => scope.names.lookup x == some .cell, pn := [], xe := fun _ _ => False }
section
variable {X : Cx} {pins : List (Addr × Obj)} {σ : St} {H : Hp} {s : Shared}
theorem block_start {scope : Scope} {own : List (Str × Nat)} {fp : List Addr} (I : Inv X pins σ H s) (ok : BlkOk X.N X.env.scope scope own) (hN : X.N.Nodup) (hfp : ∀ b ∈ fp, FpOk X pins H b ∧ b < s.heap.objs.size) :
    Inv (X.blk s H scope (compEnvC scope (cellsFrom (s.heap.objs.size + 1) scope.names (cloFrom X.env.cells scope.names [])) s.heap.objs.size X.env) fp) [] (wipe σ (own.map (·.2))) H { s with heap := pushCells (s.heap.push { cls := .type "dict", data := .dict #[] }) scope.names } := by
  have hfree : ∀ y ∈ scope.names, y.2 = .free → ∃ c, X.env.cells.lookup y.1 = some c := fun y hy e => by
    rcases ok.free y hy e with k | k
    · exact I.ok.has _ (.inl k)
    · exact I.ok.has _ (.inr k)
  generalize hcenv : compEnvC scope (cellsFrom (s.heap.objs.size + 1) scope.names (cloFrom X.env.cells scope.names [])) s.heap.objs.size X.env = cenv
  have kp : ∀ b o, s.heap.get? b = some o → (pushCells (s.heap.push { cls := .type "dict", data := .dict #[] }) scope.names).get? b = some o := fun b o e => pushCells_keeps _ _ _ _ (Heap.get?_push_of_some _ e)
  have hL : cenv.locals = s.heap.objs.size := by rw [← hcenv]; rfl
  have hcl : cenv.cells = cellsFrom (s.heap.objs.size + 1) scope.names (cloFrom X.env.cells scope.names []) := by rw [← hcenv]; rfl
  have hsc : cenv.scope = relS scope X.env.scope := by rw [← hcenv]; rfl
  rw [← Heap.size_push s.heap { cls := .type "dict", data := .dict #[] }] at hcl
  have cm : ∀ {y c}, (y, c) ∈ cloFrom X.env.cells scope.names [] → X.env.cells.lookup y = some c ∧ c < s.heap.objs.size := fun {y c} hm => by
    rcases cloFrom_mem hm with hm | ⟨h1, rfl⟩
    · cases hm
    · obtain ⟨c, hc⟩ := hfree _ h1 rfl
      rw [hc]
      obtain ⟨w, z⟩ := I.cell _ _ hc
      exact ⟨rfl, z.lt⟩
  have mem : ∀ {y c}, cenv.cells.lookup y = some c → (X.env.cells.lookup y = some c ∧ c < s.heap.objs.size) ∨ (s.heap.objs.size + 1 ≤ c ∧ CellAt (pushCells (s.heap.push { cls := .type "dict", data := .dict #[] }) scope.names) c none) := fun {y c} e => by
    rw [hcl] at e
    rcases cells_mem (PySem.mem_of_lookup e) with hm | ⟨_, h2, h3⟩
    · exact .inl (cm hm)
    · rw [Heap.size_push] at h2; exact .inr ⟨h2, h3⟩
  have look : ∀ {y}, scope.names.lookup y = some .free → ∃ c, cenv.cells.lookup y = some c ∧ X.env.cells.lookup y = some c := fun {y} hl => by
    have hy : (y, NameKind.free) ∈ scope.names := PySem.mem_of_lookup hl
    obtain ⟨c', e'⟩ := mem_lookup (cells_acc (names := scope.names) (n := (s.heap.push { cls := .type "dict", data := .dict #[] }).objs.size) (cloFrom_has (cells := X.env.cells) (acc := []) hy))
    rw [← hcl] at e'
    refine ⟨c', e', ?_⟩
    rw [hcl] at e'
    rcases cells_mem (PySem.mem_of_lookup e') with hm | ⟨h1, _, _⟩
    · exact (cm hm).1
    · have := ok.uniq _ h1
      rw [hl] at this; cases this
  have okB : (X.blk s H scope cenv fp).Ok := by
    refine ⟨I.ok.mod, by show cenv.scope.kind = _; rw [hsc]; exact ok.kind, by show cenv.globals = _; rw [← hcenv]; exact I.ok.glob, by show cenv.builtins = _; rw [← hcenv]; exact I.ok.blt, by show s.heap.objs.size ≤ cenv.locals; rw [hL]; exact Nat.le_refl _,
      fun y z c e1 e2 => ?_, fun y hy => ?_, fun y c z e => ?_, I.ok.hd, I.ok.frames, .inl rfl, fun b hb => ⟨?_, fun y c e z => ?_⟩, I.bs, Nat.le_trans I.ok.bsz I.sz, fun b o e hb => ?_, fun b hb z => ?_, I.stack, I.stkFree⟩
    · have e1 : cenv.cells.lookup y = some c := e1
      have e2 : cenv.cells.lookup z = some c := e2
      rw [hcl] at e1 e2
      refine cells_inj (fun p hp => ?_) (fun y z c a b => I.ok.inj y z c (cm a).1 (cm b).1) (PySem.mem_of_lookup e1) (PySem.mem_of_lookup e2)
      rw [Heap.size_push]
      exact Nat.lt_succ_of_lt (cm (y := p.1) (c := p.2) hp).2
    · show ∃ c, cenv.cells.lookup y = some c
      have key : ∀ k, cenv.kindOf y = some k → (k = .cell ∨ k = .free) → ∃ c, cenv.cells.lookup y = some c := fun k hk hk' => by
        unfold Env.kindOf at hk
        rw [hsc] at hk
        obtain ⟨k', e, r⟩ := lookup_relS hk
        have : k' = .cell ∨ k' = .free := by
          rcases r with rfl | ⟨rfl, _⟩
          · exact hk'
          · exact .inr rfl
        rcases this with rfl | rfl
        · obtain ⟨c, hm⟩ := cells_has (n := (s.heap.push { cls := .type "dict", data := .dict #[] }).objs.size) (acc := cloFrom X.env.cells scope.names []) (PySem.mem_of_lookup e)
          obtain ⟨c', e'⟩ := mem_lookup hm
          exact ⟨c', by rw [hcl]; exact e'⟩
        · obtain ⟨c, h1, _⟩ := look e
          exact ⟨c, h1⟩
      rcases hy with hy | hy
      · exact key _ hy (.inl rfl)
      · exact key _ hy (.inr rfl)
    · have z : (scope.names.lookup y == some NameKind.cell) = true := z
      have z : scope.names.lookup y = some .cell := by simpa using z
      have e : cenv.cells.lookup y = some c := e
      rw [hcl] at e
      rcases cells_mem (PySem.mem_of_lookup e) with hm | ⟨_, h2, _⟩
      · rcases cloFrom_mem hm with hm | ⟨h1, _⟩
        · cases hm
        · have q := ok.uniq _ h1
          rw [z] at q; cases q
      · rw [Heap.size_push] at h2
        exact Nat.le_of_succ_le h2
    · show b ≠ cenv.locals
      rw [hL]; exact Nat.ne_of_lt (hfp b hb).2
    · have e : cenv.cells.lookup y = some c := e
      rcases mem e with ⟨h1, _⟩ | ⟨h1, _⟩
      · exact (hfp b hb).1.2.2.2.2.1 y c h1 z
      · have h2 : s.heap.objs.size + 1 ≤ b := by rw [← z]; exact h1
        exact absurd (Nat.lt_of_lt_of_le (hfp b hb).2 (Nat.le_of_succ_le h2)) (Nat.lt_irrefl _)
    · rcases (hfp b hb).1.2.2.2.1 with z | z
      · exact I.ok.noex b o e z
      · exact absurd (Nat.lt_of_lt_of_le (Heap.lt_size e) (Nat.le_trans I.ok.bsz z)) (Nat.lt_irrefl _)
    · rcases List.mem_cons.mp (I.stkSub b z) with z | z
      · exact (hfp b hb).1.2.1 z
      · exact (hfp b hb).1.2.2.1 z
  refine ⟨okB, rfl, I.bare, Un.kept kp, ⟨fun _ => none, ?_, fun i y av e1 e2 e3 => ?_⟩, fun y c e => ?_, ?_, fun y c e => ?_, fun p hp => ?_, I.hok.kept kp, by rw [wipe_length]; exact I.len⟩
  · show Heap.Ns _ cenv.locals _
    rw [hL]
    exact Heap.Ns.keeps (Heap.Ns.new ..) fun b o e => pushCells_keeps _ _ _ _ e
  · obtain ⟨e2, hne⟩ := wipe_some e2
    have hfr : scope.names.lookup y = some .free ∧ (cenv.kindOf y = some .cell ∨ cenv.kindOf y = some .free) := by
      have key : ∀ k, cenv.scope.names.lookup y = some k → k = .local ∨ k = .cell ∨ k = .free → scope.names.lookup y = some .free ∧ (cenv.kindOf y = some .cell ∨ cenv.kindOf y = some .free) := fun k hk hk' => by
        have hk0 := hk
        rw [hsc] at hk
        obtain ⟨k', e, r⟩ := lookup_relS hk
        have no : ¬ (k' = .local ∨ k' = .cell) := fun hh => by
          rcases ok.own _ (PySem.mem_of_lookup e) hh with e' | e'
          · obtain ⟨p, hp, hpy⟩ := List.mem_map.mp e'
            have e3 := ok.ix p hp
            have : p.1 = y := hpy
            rw [this] at e3
            exact hne (List.mem_map.mpr ⟨p, hp, nodup_ix hN e3 e1⟩)
          · exact e' (List.mem_of_getElem? e1)
        rcases r with rfl | ⟨rfl, rfl⟩
        · rcases hk' with rfl | rfl | rfl
          · exact absurd (.inl rfl) no
          · exact absurd (.inr rfl) no
          · exact ⟨e, .inr hk0⟩
        · exact ⟨e, .inl hk0⟩
      have e3 : Vis cenv.scope y := e3
      rcases e3 with e3 | e3 | e3
      · exact key _ e3 (.inl rfl)
      · exact key _ e3 (.inr (.inl rfl))
      · exact key _ e3 (.inr (.inr rfl))
    obtain ⟨m, hn, hl⟩ := I.loc
    have hvis : Vis X.env.scope y := (ok.free _ (PySem.mem_of_lookup hfr.1) rfl).elim (fun k => .inr (.inl k)) (fun k => .inr (.inr k))
    obtain ⟨w, r, q⟩ := hl i y av e1 e2 hvis
    refine ⟨w, r, .inr ⟨hfr.2, ?_⟩⟩
    obtain ⟨c, h1, h2⟩ := look hfr.1
    rcases q with ⟨k, _⟩ | ⟨_, c', e', z⟩
    · have k : X.env.scope.names.lookup y = some .local := k
      rcases ok.free _ (PySem.mem_of_lookup hfr.1) rfl with k' | k' <;> rw [show X.env.scope.names.lookup y = _ from k'] at k <;> cases k
    · rw [h2] at e'; cases e'
      exact ⟨c, h1, z.keeps kp⟩
  · have e : cenv.cells.lookup y = some c := e
    rcases mem e with ⟨h1, _⟩ | ⟨_, z⟩
    · obtain ⟨w, z⟩ := I.cell y c h1
      exact ⟨w, z.keeps kp⟩
    · exact ⟨_, z⟩
  · show H cenv.locals = none
    rw [hL]; exact I.hok.fresh (Nat.le_refl _)
  · have e : cenv.cells.lookup y = some c := e
    rcases mem e with ⟨h1, _⟩ | ⟨h1, _⟩
    · exact I.freeC y c h1
    · exact I.hok.fresh (Nat.le_of_succ_le h1)
  · exact absurd (show p ∈ ([] : List (Addr × Obj)) ++ [] from hp) (by simp)

/-- an item appended to a tracked list -/
theorem app_ok {E : Value → Shared → Prop} {D : Addr} {xs : List V} {y : V} {v : Value} {Q : Value → Shared → Prop} (I : Inv X pins σ H s) (hD : H D = some (.lst xs)) (hz : xs.length < sizeLine) (r : RelV y v)
    (h : ∀ s', Inv X pins σ (upd H D (.lst (xs ++ [y]))) s' → Q .none s') : wpAny (model X.prog X.w) X.A (call (.builtin "list.append") [.ref D, v]) Q E s := by
  obtain ⟨hz', its, n, ri, e⟩ := I.hok D _ hD
  have hl := ri.length
  refine append_at (hsz := by rw [List.size_toArray]; omega) e fun h' sb ho' => ?_
  refine h { s with heap := h' } (I.write (t' := s.toks) (by rw [hD]; trivial) (.inl rfl) (fun b u hb q => (sb.2 b hb).trans q) ⟨_, ho'⟩ ⟨by rw [List.length_append]; exact hz, its ++ [v], n + 1, ri.append (.cons r .nil), ?_⟩)
  rw [ho']
  simp

/-- a clause's tests -/
def PTs (X : Cx) (ifs : List Expr) (t : TT) : Prop :=
  ∀ (pins : List (Addr × Obj)) (s : Shared) (σ : St) (H : Hp) (Q : Bool → Hp → Prop), Inv X pins σ H s → t σ H Q →
    wpAny (model X.prog X.w) X.A (forIn ifs true fun c r => if r = true then do let ok ← isTrue c X.env (eval c X.env); pure (ForInStep.yield ok) else pure (ForInStep.yield r)) (TP X pins σ Q) X.xe s
def tYes : TT := fun _ H Q => Q true H
theorem pts_nil : PTs X [] tYes := fun _ _ _ H _ I h => wpAny_tests_nil ⟨H, I, h⟩
end

theorem thnF {α : Type} {t : Sem α} {Q Q' : α → Shared → Prop} {M : Model} {A : Around} {E : Value → Shared → Prop} {s : Shared} (h : wpAny M A t Q (fun _ _ => False) s) (hQ : ∀ a s, Q a s → Q' a s) : wpAny M A t Q' E s := wpAny_mono h hQ fun _ _ z => False.elim z

/-- the loop of a list comprehension's block, the target of any form (codeAny_compLoop_tests asks a target that no tuple goes to; statement and proof follow it, PyProof/CompMap.lean:41-61, with the step letOwnedTupleGo kept) -/
theorem compLoop_any {prog : Program} {w : World} {A : Around} {R : Result → Shared → Prop} {s : Shared} {elt target iter : Expr} {ifs : List Expr} {scope : Scope} {pos : Pos} {it acc : Value} {env : Env} (I : Nat → Shared → Prop)
    (turn : ∀ n s, I n s → wpAny (model prog w) A (pyNext it) (fun r s₁ => match r with
      | none => R (.ok .next) s₁
      | some v => wpAny (model prog w) A (letOwnedTupleGo target it v) (fun _ s₁' => wpAny (model prog w) A (assign target env v) (fun _ s₂ =>
          wpAny (model prog w) A (forIn ifs true fun c r => if r = true then do let ok ← isTrue c env (eval c env); pure (ForInStep.yield ok) else pure (ForInStep.yield r)) (fun ok s₃ =>
            if ok = true then wpAny (model prog w) A (eval elt env) (fun x s₄ =>
              wpAny (model prog w) A (call (.builtin "list.append") [acc, x]) (fun _ s₅ => ∃ m, m < n ∧ I m s₅) (notedBy (model prog w) A env fun e s' => R (.error e) s') s₄) (notedBy (model prog w) A env fun e s' => R (.error e) s') s₃
            else ∃ m, m < n ∧ I m s₃) (notedBy (model prog w) A env fun e s' => R (.error e) s') s₂) (notedBy (model prog w) A env fun e s' => R (.error e) s') s₁') (notedBy (model prog w) A env fun e s' => R (.error e) s') s₁) (notedBy (model prog w) A env fun e s' => R (.error e) s') s)
    (n : Nat) (h : I n s) :
    codeAny (model prog w) A (.compLoop (.ListComp elt [⟨target, iter, ifs, 0⟩] scope pos) 0 it acc env) R s := by
  refine codeAny_loop rfl I (fun n s hI => ?_) n h
  show wpAny _ A ((compTurn (.ListComp elt [⟨target, iter, ifs, 0⟩] scope pos) 0 it acc env).onRaise (fun x => do noteFrame x env; theTreesLotGoes x)) _ _ s
  refine wpAny_noted ?_
  rw [compTurn_list]
  refine wpAny_bind (wpAny_standAt (wpAny_bind (wpAny_mono (turn n s hI) (fun r s₁ h₁ => ?_) fun _ _ h' => h')))
  cases r with
  | none => exact wpAny_pure h₁
  | some v =>
    refine wpAny_bind (wpAny_mono h₁ (fun _ s₁' h₁' => ?_) fun _ _ h' => h')
    refine wpAny_bind (wpAny_mono h₁' (fun _ s₂ h₂ => wpAny_bind (wpAny_mono h₂ (fun ok s₃ h₃ => ?_) fun _ _ h' => h')) fun _ _ h' => h')
    cases ok with
    | false => exact wpAny_pure ⟨rfl, h₃⟩
    | true =>
      exact wpAny_bind (wpAny_bind (wpAny_mono h₃ (fun x s₄ h₄ => wpAny_bind (wpAny_mono h₄ (fun _ s₅ h₅ => wpAny_pure (wpAny_pure ⟨rfl, h₅⟩)) fun _ _ h' => h')) fun _ _ h' => h'))

section
variable {X : Cx}
/-- [elt for target in iter if ..]: D the new list; W by the turn and a measure, Nx what a turn is to reach -/
def tLc (wi : TI) (g : TG) (tt : TT) (te : TE) (vs : List Nat) : TE := fun σ H Q => wi σ H fun J H1 => ∀ D, H1 D = none → ∃ W : Nat → Nat → Hp → Prop, (∃ m, W 0 m (upd H1 D (.lst []))) ∧ ∀ i m H, W i m H →
  (J.stop i H ∧ Q (.ref D) H) ∨ (J.go i H ∧ ∃ Nx : Hp → Prop, (∀ H', Nx H' → ∃ m', m' < m ∧ W (i + 1) m' H') ∧ ∀ x H', J.yld i H x H' → g x (wipe σ vs) H' fun σ2 H2 => wipe σ2 vs = wipe σ vs ∧ tt σ2 H2 fun b H3 =>
    if b = true then te σ2 H3 fun y H4 => ∃ acc, H4 D = some (.lst acc) ∧ acc.length < sizeLine ∧ Nx (upd H4 D (.lst (acc ++ [y]))) else Nx H3)
theorem lc_core {pins : List (Addr × Obj)} {s : Shared} {σ : St} {H : Hp} {Q : VK} {elt tg iter : Expr} {ifs : List Expr} {scope : Scope} {own : List (Str × Nat)} {pos pos' : Pos} {wi : TI} {g : TG} {tt : TT} {te : TE} {use : Option (Value → Sem Unit)} {Qf : Value → Shared → Prop}
    (hc : X.calm = true) (hN : X.N.Nodup) (I : Inv X pins σ H s) (hi : PI X tg iter wi) (ok : BlkOk X.N X.env.scope scope own)
    (hg : ∀ (s : Shared) (H : Hp) (C : Addr) (cl : List (Str × Addr)) (fp : List Addr), PG (X.blk s H scope (compEnvC scope cl C X.env) fp) tg g) (ht : ∀ (s : Shared) (H : Hp) (C : Addr) (cl : List (Str × Addr)) (fp : List Addr), PTs (X.blk s H scope (compEnvC scope cl C X.env) fp) ifs tt)
    (he : ∀ (s : Shared) (H : Hp) (C : Addr) (cl : List (Str × Addr)) (fp : List Addr), PE (X.blk s H scope (compEnvC scope cl C X.env) fp) elt te) (hs : ∀ x, foldedSetIterable iter X.env x = pure x)
    (h : tLc wi g tt te (own.map (·.2)) σ H Q)
    (hRR : ∀ D C s' m H', Inv X pins σ H' s' → Q (.ref D) H' → s'.heap.Ns C m → FpOk X pins H' C → compPost (model X.prog X.w) X.A X.xe use Qf (.ref D) C (.ok .next) s') :
    wpAny (model X.prog X.w) X.A (comprehension (.ListComp elt [⟨tg, iter, ifs, 0⟩] scope pos) scope X.env pos' (newList []) false (eval iter X.env) use) Qf X.xe s := by
  have hfree : ∀ y ∈ scope.names, y.2 = .free → ∃ c, X.env.cells.lookup y.1 = some c := fun y hy e => by
    rcases ok.free y hy e with k | k
    · exact I.ok.has _ (.inl k)
    · exact I.ok.has _ (.inr k)
  refine wpAny_comprehension_free (use := use) rfl hs (closure_ok hfree) ok.kind (fun y hy e => by rw [ok.uniq y hy, e])
    (thn (hi pins s σ H _ I h) fun xv s1 hx => thn hx fun itv s2 h2 => ?_)
  obtain ⟨it, fp, tn, J, H2, e, I2, T, st2, f2, q⟩ := h2
  subst e
  refine wpAny_newObj_type (newEnv_comp ?_) (by show 0 ≤ sizeLine; decide)
  generalize hD : s2.heap.objs.size = D
  have hDn : H2 D = none := I2.hok.fresh (Nat.le_of_eq hD)
  obtain ⟨W, ⟨m0, w0⟩, turn⟩ := q D hDn
  -- the new list
  generalize hs3 : ({ s2 with heap := s2.heap.push { cls := .type "list", data := .seq ([] : List Value).toArray } } : Shared) = s3
  have I3 : Inv X pins σ (upd H2 D (.lst [])) s3 := by
    rw [← hs3]
    refine I2.laid (t' := s2.toks) (fun b o e => Heap.get?_push_of_some _ e) (Nat.le_of_eq hD) ⟨Nat.zero_le _, [], 0, .nil, ?_⟩
    rw [← hD]
    exact Heap.get?_push_size _ rfl
  have h3 : s3.heap = s2.heap.push { cls := .type "list", data := .seq ([] : List Value).toArray } := by rw [← hs3]
  have sz : ∀ b ∈ fp, b < s2.heap.objs.size := fun b hb => by
    obtain ⟨o, e, _⟩ := T.obj _ _ st2 b hb
    exact Heap.lt_size e
  have f3 : ∀ b ∈ fp, FpOk X pins (upd H2 D (.lst [])) b ∧ b < s3.heap.objs.size := fun b hb => by
    have hlt := sz b hb
    refine ⟨⟨?_, (f2 b hb).2⟩, by rw [h3, Heap.size_push]; exact Nat.lt_succ_of_lt hlt⟩
    rw [upd_ne (by rw [← hD]; exact Nat.ne_of_lt hlt)]
    exact (f2 b hb).1
  have st3 : tn 0 s3.heap := T.keep _ _ _ st2 fun b _ o e => by rw [h3]; exact Heap.get?_push_of_some _ e
  have I4 := block_start I3 ok hN f3
  have pg := hg s3 (upd H2 D (.lst [])) s3.heap.objs.size (cellsFrom (s3.heap.objs.size + 1) scope.names (cloFrom X.env.cells scope.names [])) fp
  have pt := ht s3 (upd H2 D (.lst [])) s3.heap.objs.size (cellsFrom (s3.heap.objs.size + 1) scope.names (cloFrom X.env.cells scope.names [])) fp
  have pe := he s3 (upd H2 D (.lst [])) s3.heap.objs.size (cellsFrom (s3.heap.objs.size + 1) scope.names (cloFrom X.env.cells scope.names [])) fp
  show codeAny _ _ (.compStart (.ListComp elt [⟨tg, iter, ifs, 0⟩] scope pos) 0 (.ref it) (.ref D) (compEnvC scope (cellsFrom (s3.heap.objs.size + 1) scope.names (cloFrom X.env.cells scope.names [])) s3.heap.objs.size X.env)) (compPost (model X.prog X.w) X.A X.xe use Qf (.ref D) s3.heap.objs.size) { s3 with heap := pushCells (s3.heap.push { cls := .type "dict", data := .dict #[] }) scope.names }
  have nfp : ∀ b ∈ fp, (upd H2 D (.lst [])) b = none := fun b hb => (f3 b hb).1.1
  generalize hce : compEnvC scope (cellsFrom (s3.heap.objs.size + 1) scope.names (cloFrom X.env.cells scope.names [])) s3.heap.objs.size X.env = ce at I4 pg pt pe ⊢
  have cL : ce.locals = s3.heap.objs.size := by subst hce; rfl
  generalize hH3 : upd H2 D (.lst []) = H3 at I3 I4 pg pt pe w0 nfp f3
  generalize hs4 : ({ s3 with heap := pushCells (s3.heap.push { cls := .type "dict", data := .dict #[] }) scope.names } : Shared) = s4 at I4 ⊢
  have st4 : tn 0 s4.heap := T.keep _ _ _ st3 fun b _ o e => by rw [← hs4]; exact pushCells_keeps _ _ _ _ (Heap.get?_push_of_some _ e)
  have stat : ∀ {σ' : St} {H' : Hp} {s' : Shared}, Inv (X.blk s3 H3 scope ce fp) [] σ' H' s' → (∀ b ∈ fp, H' b = none) → ∀ b ∈ fp, FpOk (X.blk s3 H3 scope ce fp) [] H' b := fun {σ' H' s'} I' hn b hb =>
    ⟨hn b hb, (I'.ok.exf b hb).1, I'.ok.exfs b hb, .inl hb, fun x c e => (I'.ok.exf b hb).2 x c e, fun p hp => absurd (show p ∈ ([] : List (Addr × Obj)) ++ [] from hp) (by simp)⟩
  have loop : codeAny (model X.prog X.w) X.A (.compLoop (.ListComp elt [⟨tg, iter, ifs, 0⟩] scope pos) 0 (.ref it) (.ref D) ce) (compPost (model X.prog X.w) X.A X.xe use Qf (.ref D) s3.heap.objs.size) s4 := by
    refine compLoop_any (fun n s' => ∃ i H', Inv (X.blk s3 H3 scope ce fp) [] (wipe σ (own.map (·.2))) H' s' ∧ tn i s'.heap ∧ (∀ b ∈ fp, H' b = none) ∧ W i n H') ?_ m0 ⟨0, H3, I4, st4, nfp, w0⟩
    rintro n s5 ⟨i, H5, I5, st5, n5, w5⟩
    rcases turn i n H5 w5 with ⟨stop, qq⟩ | ⟨go, Nx, hNx, step⟩
    · have td := T.done (X.blk s3 H3 scope ce fp) rfl rfl rfl hc i [] s5 _ H5 (fun _ _ => False) I5 (stat I5 n5) st5 stop
      refine thnF td fun r s6 ⟨hr, I6⟩ => ?_
      subst hr
      -- back in the def's context
      have I7 : Inv X pins σ H5 s6 := I3.call' (ch := fp) I6.os I6.base I6.hok I6.bare fun b hb => ⟨(f3 b hb).1.2.2.2.1, (f3 b hb).1.2.1, (f3 b hb).1.2.2.2.2.1, (f3 b hb).1.2.2.2.2.2⟩
      have nC : H5 s3.heap.objs.size = none := by
        have z : H5 ce.locals = none := I6.free
        rw [cL] at z
        exact z
      obtain ⟨m, hn, _⟩ := I6.loc
      have hn : s6.heap.Ns ce.locals m := hn
      rw [cL] at hn
      exact hRR D s3.heap.objs.size s6 m H5 I7 qq hn (I3.fpOk (Nat.le_refl _) nC)
    · have ti := T.item (X.blk s3 H3 scope ce fp) rfl rfl rfl hc i [] s5 _ H5 (fun _ _ => False) I5 (stat I5 n5) st5 go
      refine thnF ti fun r s6 ⟨u, hr, h6⟩ => ?_
      subst hr
      refine thnF h6 fun _ s7 ⟨x, H7, I7, r7, y7, st7, n7⟩ => ?_
      have I7' := I7.pinned (stat I7 n7) (T.obj _ _ st7)
      refine thnF (pg _ s7 _ H7 x u _ I7' r7 (step x H7 y7)) fun _ s8 ⟨σ8, H8, I8, hw8, q8⟩ => ?_
      refine thnF (pt _ s8 σ8 H8 _ I8 q8) fun b s9 ⟨H9, I9, q9⟩ => ?_
      -- the turn's end
      have fin : ∀ {s' : Shared} {H' : Hp}, Inv (X.blk s3 H3 scope ce fp) ([] ++ pinsAt fp s7.heap) σ8 H' s' → Nx H' → ∃ m, m < n ∧ ∃ i H', Inv (X.blk s3 H3 scope ce fp) [] (wipe σ (own.map (·.2))) H' s' ∧ tn i s'.heap ∧ (∀ b ∈ fp, H' b = none) ∧ W i m H' := fun {s' H'} I' nx => by
        obtain ⟨m', hm, w'⟩ := hNx H' nx
        have pin' : ∀ b ∈ fp, ∀ o, s7.heap.get? b = some o → s'.heap.get? b = some o ∧ H' b = none := fun b hb o e =>
          let z := I'.pin (b, o) (List.mem_append_right _ (List.mem_append_right _ (mem_pinsAt hb e)))
          ⟨z.1, z.2.1⟩
        have hl : (wipe σ (own.map (·.2))).length = σ8.length := by rw [← hw8, wipe_length]
        refine ⟨m', hm, i + 1, H', (I'.unpinned (pins := [])).weak hl (fun j v e => ?_), T.keep _ _ _ st7 fun b hb o e => (pin' b hb o e).1, fun b hb => ?_, w'⟩
        · rw [← hw8] at e
          exact (wipe_some e).1
        · obtain ⟨o, e, _⟩ := T.obj _ _ st7 b hb
          exact (pin' b hb o e).2
      cases b with
      | false =>
        simp only [Bool.false_eq_true, if_false] at q9 ⊢
        exact fin I9 q9
      | true =>
        simp only [if_true] at q9 ⊢
        refine thnF (pe _ s9 σ8 H9 _ I9 q9) fun z s10 ⟨yv, H10, I10, r10, acc, hD10, hz10, nx⟩ => ?_
        exact app_ok (X := X.blk s3 H3 scope ce fp) I10 hD10 hz10 r10 fun s11 I11 => fin I11 nx
  exact codeAny_compStart_list loop (T.self X.A 0 _ _ _ st4 loop)
/-- as a value -/
theorem pe_lc {elt tg iter : Expr} {ifs : List Expr} {scope : Scope} {own : List (Str × Nat)} {pos : Pos} {wi : TI} {g : TG} {tt : TT} {te : TE} (hc : X.calm = true) (hN : X.N.Nodup) (hi : PI X tg iter wi) (ok : BlkOk X.N X.env.scope scope own)
    (hg : ∀ (s : Shared) (H : Hp) (C : Addr) (cl : List (Str × Addr)) (fp : List Addr), PG (X.blk s H scope (compEnvC scope cl C X.env) fp) tg g) (ht : ∀ (s : Shared) (H : Hp) (C : Addr) (cl : List (Str × Addr)) (fp : List Addr), PTs (X.blk s H scope (compEnvC scope cl C X.env) fp) ifs tt)
    (he : ∀ (s : Shared) (H : Hp) (C : Addr) (cl : List (Str × Addr)) (fp : List Addr), PE (X.blk s H scope (compEnvC scope cl C X.env) fp) elt te) (hs : ∀ x, foldedSetIterable iter X.env x = pure x := by intro _; rfl) :
    PE X (.ListComp elt [⟨tg, iter, ifs, 0⟩] scope pos) (tLc wi g tt te (own.map (·.2))) := by
  intro pins s σ H Q I h
  rw [eval_ListComp]
  refine lc_core hc hN I hi ok hg ht he hs h fun D C s' m H' I' q hn f => ⟨m, hn, fun h'' sb => ?_⟩
  obtain ⟨f0, f1, f2, f3, f4, f5⟩ := f
  exact ⟨.ref D, H', I'.turned (t' := s'.toks) (fun b o hb e => (sb.2 b hb).trans e) f0 f1 f3 f4 f5, rfl, q⟩
end

/-! ### the forms one uses -/
/-- over a list that the block leaves as it is -/
theorem lc_list {K : PySem.W.Frag} {a : Addr} {xs : List V} {g : TG} {tt : TT} {te : TE} {vs : List Nat} {σ : St} {H1 : Hp} {D : Addr} {Qd : Hp → Prop} (Pv : Nat → Hp → Prop) (h0 : Pv 0 (upd H1 D (.lst []))) (hl : ∀ i H, i ≤ xs.length → Pv i H → SqL K H a xs)
    (hs : ∀ i x H, xs[i]? = some x → Pv i H → g x (wipe σ vs) H fun σ2 H2 => wipe σ2 vs = wipe σ vs ∧ tt σ2 H2 fun b H3 =>
      if b = true then te σ2 H3 fun y H4 => ∃ acc, H4 D = some (.lst acc) ∧ acc.length < sizeLine ∧ Pv (i + 1) (upd H4 D (.lst (acc ++ [y]))) else Pv (i + 1) H3) (hd : ∀ H, Pv xs.length H → Qd H) :
    ∃ W : Nat → Nat → Hp → Prop, (∃ m, W 0 m (upd H1 D (.lst []))) ∧ ∀ i m H, W i m H →
      ((Itl K a).stop i H ∧ Qd H) ∨ ((Itl K a).go i H ∧ ∃ Nx : Hp → Prop, (∀ H', Nx H' → ∃ m', m' < m ∧ W (i + 1) m' H') ∧ ∀ x H', (Itl K a).yld i H x H' → g x (wipe σ vs) H' fun σ2 H2 => wipe σ2 vs = wipe σ vs ∧ tt σ2 H2 fun b H3 =>
        if b = true then te σ2 H3 fun y H4 => ∃ acc, H4 D = some (.lst acc) ∧ acc.length < sizeLine ∧ Nx (upd H4 D (.lst (acc ++ [y]))) else Nx H3) := by
  refine ⟨fun i m H => m = xs.length - i ∧ i ≤ xs.length ∧ Pv i H, ⟨xs.length, by simp, Nat.zero_le _, h0⟩, ?_⟩
  rintro i m H ⟨rfl, hi, p⟩
  have q := hl i H hi p
  by_cases hlt : i < xs.length
  · refine .inr ⟨⟨xs, xs[i], q, by simp [hlt]⟩, Pv (i + 1), fun H' p' => ⟨xs.length - (i + 1), by omega, rfl, hlt, p'⟩, fun x H' y => ?_⟩
    obtain ⟨e, y⟩ := y
    subst e
    exact hs i x _ (y xs q) p
  · have e : i = xs.length := by omega
    subst e
    exact .inl ⟨⟨xs, q, Nat.le_refl _⟩, hd H p⟩
def blkC (N : List Str) (sc scope : Scope) (own : List (Str × Nat)) : Bool :=
  (match scope.kind with | .function => true | _ => false) && (scope.names.all fun y => decide (scope.names.lookup y.1 = some y.2)) && (own.all fun p => decide (N[p.2]? = some p.1)) &&
    (scope.names.all fun y => match y.2 with
      | .free => (match sc.names.lookup y.1 with | some .cell => true | some .free => true | _ => false)
      | .local => decide (y.1 ∈ own.map (·.1)) || decide (y.1 ∉ N)
      | .cell => decide (y.1 ∈ own.map (·.1)) || decide (y.1 ∉ N)
      | _ => true)
theorem blkOk_by {N : List Str} {sc scope : Scope} {own : List (Str × Nat)} (h : blkC N sc scope own = true) : BlkOk N sc scope own := by
  unfold blkC at h
  simp only [Bool.and_eq_true, List.all_eq_true, decide_eq_true_eq] at h
  obtain ⟨⟨⟨h1, h2⟩, h3⟩, h4⟩ := h
  refine ⟨?_, h2, h3, fun y hy e => ?_, fun y hy e => ?_⟩
  · split at h1
    · assumption
    · cases h1
  · have q := h4 y hy
    simp only [e] at q
    split at q <;> first | exact .inl (by assumption) | exact .inr (by assumption) | cases q
  · have q := h4 y hy
    rcases e with e | e <;> (simp only [e, Bool.or_eq_true, decide_eq_true_eq] at q; exact q)
end L2

namespace L2
open PySem PySem.Spec PyProof.Rows

section
variable {prog : Program} {w : World} {A : Around} {R : Result → Shared → Prop} {s : Shared} {elt t0 i0 t1 i1 : Expr} {ifs0 ifs1 : List Expr} {scope : Scope} {pos : Pos} {it acc : Value} {env : Env}
end

section
variable {X : Cx}
end
end L2

namespace L2
open PySem PySem.Spec PyProof.Rows

/-! ### lists of pairs as tables -/
section
variable {κ : Type} [DecidableEq κ]
end


/-! ### a tracked dict, its keys ints and texts or tuples of these -/
section
variable {P : Program} {w : World} {H : Hp} {h : Heap} {a : Addr}
end

section
variable {X : Cx} {pins : List (Addr × Obj)} {σ : St} {H : Hp} {s : Shared} {a : Addr} {y v : V} {u r : Value} {o : Option V} {A : Around} {E : Value → Shared → Prop}

end

section
variable {X : Cx} {pins : List (Addr × Obj)} {σ : St} {H : Hp} {s : Shared} {a : Addr} {kvs : List (Key × V)} {k : Key} {u : Value} {A : Around} {E : Value → Shared → Prop}
end


/-! ### readings and rules -/
section
variable {X : Cx} {o i e value : Expr} {pos pos' tpos : Pos} {td ty tv : TE}
end


/-! ### displays -/
section
variable {X : Cx} {pos : Pos}
end

/-! ### methods -/
/-- a method call o.m(e) of a built-in, with one argument: what must be seen of the text -/
structure M1 (X : Cx) (o : Expr) (m : Str) (apos : Pos) (e : Expr) (cpos : Pos) : Prop where
  base : attributeBase o m X.env (eval o X.env) = eval o X.env
  few : ((backTo cpos (starEach [e] X.env)).all (fun x => !x.1) && (backToKw cpos (keywordEach [] X.env)).all (fun x => x.1.isSome)
    && decide (([e] : List Expr).length + ([] : List Keyword).length + (if ([] : List Keyword).isEmpty then 0 else 1) < 30)) = true
  line : (apos.endLine == cpos.line) = true
  trees : backTo cpos (starEach [e] X.env) = [(false, eval e X.env)]
structure M2 (X : Cx) (o : Expr) (m : Str) (apos : Pos) (e f : Expr) (cpos : Pos) : Prop where
  base : attributeBase o m X.env (eval o X.env) = eval o X.env
  few : ((backTo cpos (starEach [e, f] X.env)).all (fun x => !x.1) && (backToKw cpos (keywordEach [] X.env)).all (fun x => x.1.isSome)
    && decide (([e, f] : List Expr).length + ([] : List Keyword).length + (if ([] : List Keyword).isEmpty then 0 else 1) < 30)) = true
  line : (apos.endLine == cpos.line) = true
  trees : backTo cpos (starEach [e, f] X.env) = [(false, eval e X.env), (false, eval f X.env)]

section
variable {X : Cx} {pins : List (Addr × Obj)} {σ : St} {H : Hp} {s : Shared} {a : Addr} {y d : V} {u r : Value} {o : Option V} {A : Around} {E : Value → Shared → Prop}
end

section
variable {X : Cx} {o e f : Expr} {apos cpos : Pos} {td ty tx : TE}
end

/-! ### dict(d): a copy -/
section
variable {X : Cx} {pins : List (Addr × Obj)} {σ : St} {H : Hp} {s : Shared} {a : Addr} {kvs : List (Key × V)} {A : Around} {E : Value → Shared → Prop}
end


section
variable {X : Cx} {pins : List (Addr × Obj)} {σ : St} {H : Hp} {s : Shared} {a : Addr} {y : V} {u : Value} {A : Around} {E : Value → Shared → Prop}
end
end L2

namespace L2
open PySem PySem.Spec PyProof.Rows

section
variable {prog : Program} {w : World} {A : Around} {E : Value → Shared → Prop}
end

section
variable {X : Cx}
end
end L2

namespace L2
open PySem PySem.Spec PyProof.Rows

section
variable {X : Cx} {pins : List (Addr × Obj)} {σ : St} {H : Hp} {s : Shared} {h' : Heap}
/-! ### locking a thing while a statement runs -/
end
section
variable {X : Cx}
/-! ### one iterator just laid -/
theorem pi_one {tg : Expr} {pins : List (Addr × Obj)} {σ : St} {H : Hp} {s : Shared} {R : It → Hp → Prop} {J : It} {tn : Nat → Heap → Prop} {tk : Nat} (I : Inv X pins σ H s) (o : Obj)
    (T : Turn X.prog X.w X.K tg J [s.heap.objs.size] s.heap.objs.size tn) (st : tn 0 (s.heap.push o)) (q : R J H) : PIE X pins σ tg R (.ref s.heap.objs.size) { s with heap := s.heap.push o, toks := tk } := by
  refine ⟨s.heap.objs.size, [s.heap.objs.size], tn, J, H, rfl, I.kept fun b ob e => Heap.get?_push_of_some _ e, T, st, fun b hb => ?_, q⟩
  have e : b = s.heap.objs.size := by simpa using hb
  subst e
  exact I.fpOk (Nat.le_refl _) (I.hok.fresh (Nat.le_refl _))
end

/-! ### range with a step -/
/-- lo, lo + c, .. (n of them) -/
def Itc (lo c : Int) (n : Nat) : It := ⟨fun i _ => i < n, fun i H x H' => H' = H ∧ x = .int (lo + (i : Nat) * c), fun i _ => n ≤ i⟩
theorem turn_rangeC {P : Program} {w : World} {K : PySem.W.Frag} {tg : Expr} (it : Addr) (lo c : Int) (n : Nat) : Turn P w K tg (Itc lo c n) [it] it (fun i h => IsRangeIter h it (lo + (i : Nat) * c) ((n : Int) - (i : Nat)) c) where
  mem := by simp
  obj := fun i h st b hb => by
    have e : b = it := by simpa using hb
    subst e
    exact ⟨_, st, fun v z => nomatch z⟩
  keep := fun i h h' st k => k it (by simp) _ st
  item := by
    intro X hP hw hK hc i pins s σ H E I hf st hg
    subst hP hw hK
    obtain ⟨f0, f1, f2, f3, f4, f5⟩ := hf it (by simp)
    have W := Walks.range (prog := X.prog) (w := X.w) (I.ok.hd hc) it lo c n
    refine W.item i s _ _ hg st fun v h' tk hv st' kk => ?_
    obtain ⟨t, rfl⟩ := hv
    have I1 : Inv X pins σ H { s with heap := h', toks := tk } := I.turned (fun b o hb e => kk b o (by simpa using hb) e) f0 f1 f3 f4 f5
    exact ⟨_, rfl, go_of (s := { s with heap := h', toks := tk }) (n := "range_iterator") st' rfl rfl (by decide) ⟨.int (lo + (i : Nat) * c), H, I1, ⟨t, rfl⟩, ⟨rfl, rfl⟩, st', fun b hb => (hf b hb).1⟩⟩
  done := by
    intro X hP hw hK hc i pins s σ H E I hf st hg
    subst hP hw hK
    obtain ⟨f0, f1, f2, f3, f4, f5⟩ := hf it (by simp)
    exact wpAny_pyNext_range_end (I.ok.hd hc) st (by have : n ≤ i := hg; omega) fun h' eb => ⟨rfl, I.turned (t' := s.toks) (fun b o hb e => eb b o hb e) f0 f1 f3 f4 f5⟩
  self := fun A i s Q E st h => wpAny_pyIter_rangeiter st h
/-- range(i, j, c): small bounds, n items -/
def RgC (i j c : Int) (n : Nat) : Prop := c ≠ 0 ∧ c.natAbs < 1073741824 ∧ Builtin.Range.small i j c = true ∧ Builtin.Range.rangeSize i j c = n
theorem RgC.neg {i j : Int} (ha : -(2 ^ 62) ≤ i) (ha' : i < 2 ^ 62) (hb : -(2 ^ 62) ≤ j) (hb' : j < 2 ^ 62) : RgC i j (-1) (i - j).toNat :=
  ⟨by decide, by decide, PySem.W.small_down ha ha' hb hb', PySem.W.rangeSize_downNat i j⟩
def iRng3 (ta : TA) : TI := fun σ H R => ta σ H fun vs H1 => ∃ (i j c : Int) (n : Nat), vs = [.int i, .int j, .int c] ∧ RgC i j c n ∧ R (Itc i c n) H1
section
variable {X : Cx} {tg : Expr}
theorem pi_range3 {a b c : Expr} {ta : TA} {p pos : Pos} (hg : Gl X "range") (hm : X.mg "range" = none) (ha : PA X [a, b, c] ta)
    (hs : starEach [a, b, c] X.env = (false, eval a X.env) :: starEach [b, c] X.env := by rfl) (hpl : (backTo pos (starEach [b, c] X.env)).any (·.1) = false := by rfl) :
    PI X tg (.Call (.Name "range" p) [a, b, c] [] pos) (iRng3 ta) := by
  intro pins s σ H R I h
  refine Call_ (ld_blt I hg hm boot_range (PyProof.Rows.callWith_type1 (thn (ha pos pins s σ H _ I h) fun us s1 ⟨vs, H1, I1, r1, q1⟩ => ?_) hs hpl))
  obtain ⟨i, j, k, n, e, ⟨c0, c1, c2, c3⟩, q⟩ := q1
  subst e
  cases r1 with
  | cons r rr =>
    cases rr with
    | cons r' rr =>
      cases rr with
      | cons r'' rr =>
        cases rr
        obtain ⟨t, rfl⟩ := r
        obtain ⟨t', rfl⟩ := r'
        obtain ⟨t'', rfl⟩ := r''
        refine call_range_3 c0 ?_ (.inl (PyProof.noPylong_small c1))
        refine wpAny_pyIter_range (IsRange.new ..) c2 ?_
        have I2 : Inv X pins σ H1 { s1 with heap := s1.heap.push { cls := .type "range", data := .fields #[.int i t, .int j t', .int k t''] } } := I1.kept (t' := s1.toks) fun b o e => Heap.get?_push_of_some _ e
        refine pi_one (tk := s1.toks) I2 _ (turn_rangeC _ i k n) ?_ q
        have e1 : i + ((0 : Nat) : Int) * k = i := by simp
        have e2 : (n : Int) - ((0 : Nat) : Int) = Builtin.Range.rangeSize i j k := by rw [c3]; simp
        show IsRangeIter _ _ (i + ((0 : Nat) : Int) * k) ((n : Int) - ((0 : Nat) : Int)) k
        rw [e1, e2]
        exact Heap.get?_push_size _ rfl
end
/-- the turns of a step range, for the for loop -/
theorem for_rangeC {lo c : Int} {n : Nat} {g : TG} {tb : TS} {D : Ends} {σ : St} {H : Hp} (Pv : Nat → St → Hp → Prop) (h0 : Pv 0 σ H)
    (hs : ∀ i σ H, i < n → Pv i σ H → g (.int (lo + (i : Nat) * c)) σ H fun σ2 H2 => tb { D with nx := Pv (i + 1), ct := Pv (i + 1), bk := D.nx } σ2 H2) (hd : ∀ σ H, Pv n σ H → D.nx σ H) :
    ∃ W : Nat → Nat → St → Hp → Prop, (∃ m, W 0 m σ H) ∧ ∀ i m σ H, W i m σ H →
      ((Itc lo c n).stop i H ∧ D.nx σ H) ∨ ((Itc lo c n).go i H ∧ ∃ N : St → Hp → Prop, (∀ σ' H', N σ' H' → ∃ m', m' < m ∧ W (i + 1) m' σ' H') ∧ ∀ x H', (Itc lo c n).yld i H x H' → g x σ H' fun σ2 H2 => tb { D with nx := N, ct := N, bk := D.nx } σ2 H2) := by
  refine ⟨fun i m σ H => m = n - i ∧ i ≤ n ∧ Pv i σ H, ⟨n, by simp, Nat.zero_le _, h0⟩, ?_⟩
  rintro i m σ H ⟨rfl, hi, p⟩
  by_cases hlt : i < n
  · refine .inr ⟨hlt, Pv (i + 1), fun σ' H' p' => ⟨n - (i + 1), by omega, rfl, hlt, p'⟩, fun x H' y => ?_⟩
    obtain ⟨e, y⟩ := y
    subst e y
    exact hs i σ _ hlt p
  · have e : i = n := by omega
    subst e
    exact .inl ⟨Nat.le_refl _, hd σ H p⟩

/-! ### reversed(list) -/
section
variable {X : Cx} {tg : Expr}
end

/-! ### a str -/
/-! ### a dict's keys: any dict's entries -/
section
variable {prog : Program} {w : World} {A : Around} {E : Value → Shared → Prop} {s : Shared}
end

/-! ### a locked dict -/
section
variable {X : Cx} {pins : List (Addr × Obj)} {σ : St} {H : Hp} {s : Shared} {d : Addr} {o : Obj}
end

section
variable {P : Program} {w : World} {K : PySem.W.Frag} {tg : Expr} {d : Addr} {o : Obj} {es : Array DictEntry} {ep : Nat}
end

/-! ### for k in d, d.keys(), d.values(), d.items() -/
section
variable {X : Cx} {tg e : Expr} {td : TE} {apos cpos : Pos}
end

/-! ### enumerate(list) -/
/-! ### zip(list, list) -/
end L2

section 
namespace Bits
open PySem PyProof.Rows

end Bits
end 

section 
namespace TL
open PySem PySem.Builtin PySem.Builtin.Str PySem.StrLaws

abbrev tl (x : Str) : List Nat := x.cps.toList
/-! ### the list functions -/
/-- S stands at the head of l -/
def pre (S l : List Nat) : Bool := l.take S.length == S
/-- what stands before the first S, and behind it -/
def par (S : List Nat) : List Nat → List Nat → Option (List Nat × List Nat)
  | _, [] => none
  | acc, c :: r => if pre S (c :: r) = true then some (acc, (c :: r).drop S.length) else par S (acc ++ [c]) r

/-! ### the model's split and partition are these -/
/-! ### computing spl and par -/
/-! ### digits -/
/-! ### words: x.split() -/
end TL
end 

namespace L2
open PySem PySem.Spec PyProof.Rows

section
variable {X : Cx} {pins : List (Addr × Obj)} {σ : St} {H : Hp} {s : Shared} {Q : VK}
end

section
variable {X : Cx}

/-! ### of a text alone -/
/-! ### of a text and a text -/
end

section
variable {X : Cx} {o e : Expr} {to te : TE}
end
end L2

namespace L2
open PySem PySem.Spec PyProof.Rows

section
variable {X : Cx}
end

/-! ### slices of a text -/
end L2

namespace Att
open PySem PySem.W PySem.Calls PyProof.Rows

/-! ### the script -/
/-! ### the attachment: holds_open's last premise (the goal 'hc' behind k_head) from a wpAny of the law's body -/
/-! ### rules over ANY heap (no ledger) from facts about the written part K: the library's own take a ledger (News) for what they write -/
section
variable {prog : Program} {w : World} {A : Around} {E : Value → Shared → Prop} {s : Shared} {K : Frag}

/-! the whole heap as the ledger: makes every rule that writes through a ledger a rule over any heap -/
def ledger (h : Heap) (L d : Addr) : List (Addr × Obj) := (List.range h.objs.size).filterMap fun a => if a = L ∨ a = d then none else (h.get? a).map fun o => (a, o)
end
end Att

namespace L2
open PySem PySem.Spec PyProof.Rows

end L2

namespace L2
open PySem PySem.Spec PyProof.Rows

end L2

/- THE LAST THEOREM (shape; LID, My.* are yours):
   My.Adr: a structure of the addresses that your layer names (classes, functions); My.Txt K t: a structure (Prop) of the equations over K;
   My.txt_mk : {K} {implicit addresses ..} (e1 : nsIn K mainGlobals "law" = some (some (.ref f))) (e2 : K.lookup f = some ⟨oc, od, .func (fnOf "law" "law" params body scope dV kV doc pm an cdv ct), sl⟩) (e3 : codeIn K cdv "law" = true) .. : ∃ t, My.Txt K t

set_option maxRecDepth 100000 in
set_option maxHeartbeats 0 in
theorem PySem.Challenge.cw_LID_holds : PySem.Challenge.rw_LID.Holds := by
  w_on; o_law; k_head; (case hw => w_witness2)
  k_fill
  refine L2.walk_of (l := PySem.Challenge.rw_LID) (n := 63) (k := 40) (x := "script") (CX := fun w => ..) (sp := fun _ => My.sp_law) rfl (by decide) rfl ⟨rfl, by decide, by decide⟩ (fun w h Y => PySem.W.kIn_of Y) ?F ?S ?C
  case F =>
    intro w mg fa h KX G hmg
    have T : ∃ t, My.Txt (L2.KOf KX) t := by
      dsimp only [L2.KOf]                          -- K must stand as «<heap const> w.params» for k_is
      refine' My.txt_mk ?e1 ?e2 ?e3 ..
      (case e1 => PySem.W.k_is)                    -- in the order: a name -> its address -> its object -> its parts
      (case e2 => PySem.W.k_is)
      ..
    obtain ⟨t, T⟩ := T
    have e0 := hmg.symm.trans (PySem.W.mg_of KX G T.law)
    cases e0                                       -- fa is the law's own address
    exact ⟨_, fun s u => .of_eq rfl, fun base kb nb => My.law_fn T kb nb⟩     -- if «.of_eq rfl» comes too early: refine' ⟨_, ?b, fun base kb nb => My.law_fn T kb nb⟩; exact fun s u => .of_eq rfl
  case S => exact fun w H a ns hl hO hS => ..
  case C => exact ..
(the tactic k_is has no namespace: write k_is) -/

/-! SHORT WORDS over the layer: a def of the text, its body, what a loop and a test want. -/
namespace L2
open PySem PySem.Spec PyProof.Rows

/-! ### the text by places -/
/-- the j-th statement of a class's body -/
def inClass (s : Stmt) (j : Nat) : Stmt := match s with
  | .ClassDef _ _ _ body _ _ _ _ _ _ _ => body.getD j (.Pass ⟨0, 0, 0, 0⟩)
  | _ => .Pass ⟨0, 0, 0, 0⟩
def defArgs (s : Stmt) : Arguments := match s with
  | .FunctionDef _ a _ _ _ _ _ _ _ _ => a
  | _ => { posonlyargs := [], args := [], vararg := none, kwonlyargs := [], kw_defaults := [], kwarg := none, defaults := [] }
def defBody (s : Stmt) : List Stmt := match s with
  | .FunctionDef _ _ b _ _ _ _ _ _ _ => b
  | _ => []
def defScope (s : Stmt) : Scope := match s with
  | .FunctionDef _ _ _ _ _ _ sc _ _ _ => sc
  | _ => { kind := .function, names := [], isGenerator := false, isCoroutine := false }

/-! ### no exception leaves a def -/
abbrev CX0 : CXT := fun _ _ _ _ _ _ => False
abbrev E0 : XK := fun _ _ _ => False
theorem pass0 {X : Cx} : Passes CX0 X E0 := fun _ _ _ _ _ _ _ h => h.elim

/-! ### a def (or method) of the text as it stands behind the top -/
structure Fun (K : PySem.W.Frag) (x qual : Str) (st : Stmt) (f : Addr) (fd : FuncData) : Prop where
  ex : ∃ (oc : Value) (od : Option Addr) (kV doc pm : Value) (an : Option Addr) (cdv ct : Value) (osl : Array (Option Value)),
    fd = PySem.W.fnOf x qual (defArgs st) (defBody st) (defScope st) .none kV doc pm an cdv ct ∧ K.lookup f = some ⟨oc, od, .func fd, osl⟩ ∧ PySem.W.codeIn K cdv qual = true
  kp : PySem.W.keepIn K (.ref f) = true
section
variable {P : Program} {w : World} {K : PySem.W.Frag} {mg : Str → Option Value} {base : Heap}
/-- THE RULE for a def: its body as a term of rules, and the reading of that term -/
theorem Fun.ok {x qual : Str} {st : Stmt} {f : Addr} {fd : FuncData} {N ps : List Str} {k : Nat} {sp : Sp} (F : Fun K x qual st f fd) (S : FnScope N ps (defScope st)) (len : ∀ vs H Q E, sp vs H Q E → vs.length = ps.length)
    (hbody : ∀ (cdv : Value) (A : Around) (outer : List Env) (s : Shared) (H : Hp) (vs : List V) (Q : VK) (E : XK), Room k (A.deeper (envOfC qual (defScope st) s.heap.objs.size f cdv)) → sp vs H Q E →
      ∃ t, PSs (cxOf CX0 P w K mg base N qual (defScope st) f cdv A outer s H E).nox (defBody st) t ∧ t { nx := fun _ H' => Q .non H', rt := Q } (start N vs) H) : FnOk P w K mg base CX0 (k + 1) f fd ps sp := by
  obtain ⟨oc, od, kV, doc, pm, an, cdv, ct, osl, rfl, lk, hcd⟩ := F.ex
  refine fn_of lk hcd S len fun A outer s H vs Q E hr hsp => ?_
  obtain ⟨t, h, q⟩ := hbody cdv A outer s H vs Q E hr hsp
  exact ⟨t, h.nox, q⟩
/-- how its arguments bind (no defaults): h is «fun _ _ _ _ _ _ us hl => match us, hl with | [_, _], _ => rfl», one _ a parameter -/
theorem Fun.binds {x qual : Str} {st : Stmt} {f : Addr} {fd : FuncData} {ps : List Str} (F : Fun K x qual st f fd)
    (h : ∀ (kV doc pm : Value) (an : Option Addr) (cdv ct : Value) (us : List Value), us.length = ps.length → bindArgs (PySem.W.fnOf x qual (defArgs st) (defBody st) (defScope st) .none kV doc pm an cdv ct) ⟨us, []⟩ = pure (ps.zip us)) : Binds K fd ps [] := by
  obtain ⟨oc, od, kV, doc, pm, an, cdv, ct, osl, rfl, lk, hcd⟩ := F.ex
  exact .all (h kV doc pm an cdv ct)
theorem fun_mk {x qual : Str} {st : Stmt} {f : Addr} {oc : Value} {od an : Option Addr} {osl : Array (Option Value)} {kV doc pm cdv ct : Value} (l : K.lookup f = some ⟨oc, od, .func (PySem.W.fnOf x qual (defArgs st) (defBody st) (defScope st) .none kV doc pm an cdv ct), osl⟩)
    (c : PySem.W.codeIn K cdv qual = true) (k : PySem.W.keepIn K (.ref f) = true) : Fun K x qual st f (PySem.W.fnOf x qual (defArgs st) (defBody st) (defScope st) .none kV doc pm an cdv ct) := ⟨⟨oc, od, kV, doc, pm, an, cdv, ct, osl, rfl, l, c⟩, k⟩
end
theorem hu_of {A : Around} {k : Nat} (hr : Room k A) : A.units + 1 < cLine := Nat.lt_of_le_of_lt (Nat.add_le_add_left (by decide : 1 ≤ 64) _) hr.units
/-! ### expressions in short: the name that stands in the i-th slot -/
section
variable {X : Cx}
theorem pv (i : Nat) {x : Str} {pos : Pos} (hN : X.N[i]? = some x := by rfl) (hv : Vis X.env.scope x := by first | exact Or.inl rfl | exact Or.inr (Or.inl rfl) | exact Or.inr (Or.inr rfl)) (hd : (x == ("__debug__" : Str)) = false := by decide)
    (hcd : (x == ("__classdict__" : Str)) = false := by decide) : PE X (.Name x pos) (tVar i) := pe_var hN hv hd hcd
end

/-! ### tests -/
theorem iteF {A B : Prop} (h : B) : if false = true then A else B := by
  rw [if_neg Bool.false_ne_true]
  exact h
theorem iteT {A B : Prop} (h : A) : if true = true then A else B := by
  rw [if_pos rfl]
  exact h
theorem ite2 {c A B : Prop} [Decidable c] (h1 : c → A) (h2 : ¬ c → B) : if c then A else B := by
  by_cases h : c
  · rw [if_pos h]
    exact h1 h
  · rw [if_neg h]
    exact h2 h
/-! ### heaps -/
/-- all that was tracked is as it was -/
def Same (H H' : Hp) : Prop := ∀ b o, H b = some o → H' b = some o
theorem Same.trans {H H1 H2 : Hp} (a : Same H H1) (b : Same H1 H2) : Same H H2 := fun c o h => b c o (a c o h)
theorem Same.free {H H' : Hp} (e : Same H H') {l : Addr} (h : H' l = Option.none) : H l = Option.none := by
  cases q : H l with
  | none => rfl
  | some o =>
    rw [e l o q] at h
    cases h
theorem Same.seq {K : PySem.W.Frag} {H H' : Hp} {a : Addr} {xs : List V} (e : Same H H') (h : SqL K H a xs) : SqL K H' a xs := by
  rcases h with (h | ⟨o, h⟩) | h
  · exact .inl (.inl (e _ _ h))
  · exact .inl (.inr ⟨o, e _ _ h⟩)
  · exact .inr h

/-! ### a dict's pairs: keys that differ -/
section
variable {κ : Type} [DecidableEq κ]
end
/-! ### lists -/
theorem at_of {xs : List V} {z : Int} {j : Nat} {v : V} (e : z = (j : Int)) (h : xs[j]? = some v) : atI xs z = some v := by
  rw [e]
  exact atI_nat h
/-- a new instance and its __init__ leave all that was tracked as it was -/
theorem Same.made {H H1 : Hp} {x dx C : Addr} (nx : H x = Option.none) (nd : H dx = Option.none) (k : ∀ b o, (upd (upd H dx (.own x)) x (.ins C dx [])) b = some o → b ≠ x → H1 b = some o) : Same H H1 := fun b o e =>
  k b o (by rw [upd_ne (ne_of_none e nx), upd_ne (ne_of_none e nd)]; exact e) (ne_of_none e nx)
end L2
end

section
section
set_option Elab.async false
set_option linter.all false
set_option maxRecDepth 100000
set_option maxHeartbeats 2000000
namespace L2
open PySem PySem.Spec PyProof.Rows
open PySem.W (WData Codec OpenSpec Well WellAll ReadsW ReadsAllW)
/-! ### an answer as data -/
mutual
/-- x stands for the datum d, lists and tuples all the way -/
inductive Dw (K : PySem.W.Frag) (H : Hp) : V → WData → Prop
  | non : Dw K H .non .none
  | bl (b : Bool) : Dw K H (.bl b) (.bool b)
  | int (i : Int) : Dw K H (.int i) (.int i)
  | str (x : Str) : Dw K H (.str x) (.str x)
  | byt (b : Array UInt8) : Dw K H (.byt b) (.bytes b.toList)
  | lst {a : Addr} {xs : List V} {ds : List WData} : SqL K H a xs → DwAll K H xs ds → Dw K H (.ref a) (.list ds)
  | tup {a : Addr} {xs : List V} {ds : List WData} : SqT K H a xs → DwAll K H xs ds → Dw K H (.ref a) (.tuple ds)
inductive DwAll (K : PySem.W.Frag) (H : Hp) : List V → List WData → Prop
  | nil : DwAll K H [] []
  | cons {v : V} {vs : List V} {d : WData} {ds : List WData} : Dw K H v d → DwAll K H vs ds → DwAll K H (v :: vs) (d :: ds)
end
theorem dw_ints {K : PySem.W.Frag} {H : Hp} : ∀ ns : List Int, DwAll K H (ns.map V.int) (ns.map WData.int)
  | [] => .nil
  | n :: r => .cons (.int n) (dw_ints r)
theorem ints_dw {K : PySem.W.Frag} {H : Hp} : ∀ (ns : List Int) (xs : List V), DwAll K H xs (ns.map WData.int) → xs = ns.map V.int
  | [], xs, h => by
    cases h
    rfl
  | n :: r, xs, h => by
    cases h with
    | cons h1 h2 =>
      cases h1
      rw [ints_dw r _ h2] <;> rfl
section
variable {P : Program} {w : World} {K : PySem.W.Frag} {H : Hp} {h : Heap} {R : PySem.W.WRecords} {cl : Str → Option Addr}
theorem sqL_at {a : Addr} {xs : List V} (hok : HOk P w H h) (KX : K.In h) (q : SqL K H a xs) : ∃ (its : List Value) (o : Obj) (n : Nat), Vals xs its ∧ h.get? a = some o ∧ o.cls = .type "list" ∧ o.data = .seq its.toArray n := by
  rcases q with q | ⟨o, its, n, e, hc, _, hd, _, hv⟩
  · obtain ⟨_, its, n, hv, e⟩ := (show ObjOk P w H h a (.lst xs) from q.ok hok)
    exact ⟨its, _, n, hv, e, rfl, rfl⟩
  · exact ⟨its.toList, o, n, hv, KX _ _ e, hc, by simp [hd]⟩
theorem sqT_at {a : Addr} {xs : List V} (hok : HOk P w H h) (KX : K.In h) (q : SqT K H a xs) : ∃ (its : List Value) (o : Obj) (n : Nat), Vals xs its ∧ h.get? a = some o ∧ o.cls = .type "tuple" ∧ o.data = .seq its.toArray n := by
  rcases q with q | ⟨o, its, n, e, hc, hd, _, hv⟩
  · obtain ⟨_, its, hv, o, e, hc, n, hd⟩ := (show ObjOk P w H h a (.tup xs) from q.ok hok)
    exact ⟨its, o, n, hv, e, hc, hd⟩
  · exact ⟨its.toList, o, n, hv, KX _ _ e, hc, by simp [hd]⟩
mutual
theorem Dw.reads (hok : HOk P w H h) (KX : K.In h) : ∀ (d : WData) (v : V) (u : Value), Dw K H v d → RelV v u → ∃ as, ReadsW R cl h u d as
  | .none, _, _, x, r => by
    cases x
    cases r
    exact ⟨_, ReadsW.none⟩
  | .bool b, _, _, x, r => by
    cases x
    cases r
    exact ⟨_, ReadsW.bool b⟩
  | .int i, _, _, x, r => by
    cases x
    obtain ⟨t, rfl⟩ := r
    exact ⟨_, ReadsW.int i t⟩
  | .str s, _, _, x, r => by
    cases x
    obtain ⟨t, rfl⟩ := r
    exact ⟨_, ReadsW.str s t⟩
  | .bytes b, _, _, x, r => by
    cases x
    obtain ⟨t, rfl⟩ := r
    exact ⟨_, ReadsW.bytes _ t⟩
  | .list ds, _, _, x, r => by
    cases x with
    | lst hs ha =>
      cases r
      obtain ⟨its, o, n, rv, ho, hc, hd⟩ := sqL_at hok KX hs
      obtain ⟨as, hr⟩ := Dw.readsAll hok KX ds _ its ha rv
      exact ⟨_, ReadsW.list ho hc hd hr⟩
  | .tuple ds, _, _, x, r => by
    cases x with
    | tup hs ha =>
      cases r
      obtain ⟨its, o, n, rv, ho, hc, hd⟩ := sqT_at hok KX hs
      obtain ⟨as, hr⟩ := Dw.readsAll hok KX ds _ its ha rv
      exact ⟨_, ReadsW.tuple ho hc hd hr⟩
  | .float _, _, _, x, _ => by cases x
  | .dict _, _, _, x, _ => by cases x
  | .bytearray _, _, _, x, _ => by cases x
  | .set _, _, _, x, _ => by cases x
  | .frozenset _, _, _, x, _ => by cases x
  | .obj _ _, _, _, x, _ => by cases x
theorem Dw.readsAll (hok : HOk P w H h) (KX : K.In h) : ∀ (ds : List WData) (vs : List V) (us : List Value), DwAll K H vs ds → Vals vs us → ∃ as, ReadsAllW R cl h us ds as
  | [], _, _, x, r => by
    cases x
    cases r
    exact ⟨_, ReadsAllW.nil⟩
  | d :: ds, _, _, x, r => by
    cases x with
    | cons h1 h2 =>
      cases r with
      | cons r1 r2 =>
        obtain ⟨as, q1⟩ := Dw.reads hok KX d _ _ h1 r1
        obtain ⟨bs, q2⟩ := Dw.readsAll hok KX ds _ _ h2 r2
        exact ⟨_, ReadsAllW.cons q1 q2⟩
end
end
/-! ### the arguments -/
mutual
/-- data that a codec tells -/
def plW : WData → Bool
  | .none => true
  | .bool _ => true
  | .int _ => true
  | .str _ => true
  | .bytes _ => true
  | .list xs => plWs xs
  | .tuple xs => plWs xs
  | _ => false
def plWs : List WData → Bool
  | [] => true
  | x :: r => plW x && plWs r
end
theorem plWs_map {α : Type} {f : α → WData} (h : ∀ a, plW (f a) = true) : ∀ l : List α, plWs (l.map f) = true
  | [] => rfl
  | x :: r => by
    show (plW (f x) && plWs (r.map f)) = true
    rw [h x, plWs_map h r] <;> rfl
theorem pl_enc : ∀ (c : Codec) (a : c.denote), plW (c.enc a) = true
  | .unit, _ => rfl
  | .bool, _ => rfl
  | .int _ _, _ => rfl
  | .nat _ _, _ => rfl
  | .u8, _ => rfl
  | .bytes _ _, _ => rfl
  | .text _ _ _ _, _ => rfl
  | .list _ _ c, a => plWs_map (fun x => pl_enc c x) a
  | .pair c d, a => by
    show (plW (c.enc a.1) && (plW (d.enc a.2) && true)) = true
    rw [pl_enc c a.1, pl_enc d a.2] <;> rfl
  | .triple c d e, a => by
    show (plW (c.enc a.1) && (plW (d.enc a.2.1) && (plW (e.enc a.2.2) && true))) = true
    rw [pl_enc c a.1, pl_enc d a.2.1, pl_enc e a.2.2] <;> rfl
  | .option c, none => rfl
  | .option c, some x => pl_enc c x
theorem pl_encAll : ∀ (cs : List Codec) (a : Codec.denoteAll cs), plWs (Codec.encAll cs a) = true
  | [], _ => rfl
  | c :: cs, a => by
    show (plW (c.enc a.1) && plWs (Codec.encAll cs a.2)) = true
    rw [pl_enc c a.1, pl_encAll cs a.2] <;> rfl
theorem weight_mem : ∀ {xs : List WData} {d : WData}, d ∈ xs → d.weight ≤ WData.weightAll xs
  | [], d, h => absurd h (by simp)
  | x :: r, d, h => by
    show d.weight ≤ x.weight + 1 + WData.weightAll r
    rcases List.mem_cons.mp h with e | m
    · rw [e]
      omega
    · have z := weight_mem m
      omega
def toV : Value → V
  | .none => .non
  | .bool b => .bl b
  | .int i _ => .int i
  | .str x _ => .str x
  | .bytes b _ => .byt b
  | .ref a => .ref a
  | _ => .non
/-- a value of the arguments, its objects among A -/
def OkU (A : List Addr) : Value → Prop
  | .none => True
  | .bool _ => True
  | .int _ _ => True
  | .str _ _ => True
  | .bytes _ _ => True
  | .ref a => a ∈ A
  | _ => False
theorem OkU.mono {A B : List Addr} (h : ∀ a ∈ A, a ∈ B) : ∀ {u : Value}, OkU A u → OkU B u := fun {u} x => by
  cases u with
  | ref a => exact h a x
  | none => trivial
  | bool b => trivial
  | int i t => trivial
  | str s t => trivial
  | bytes b t => trivial
  | _ => exact False.elim x
theorem relV_toV {A : List Addr} {u : Value} (x : OkU A u) : RelV (toV u) u := by
  cases u with
  | ref a => rfl
  | none => rfl
  | bool b => rfl
  | int i t => exact ⟨t, rfl⟩
  | str s t => exact ⟨t, rfl⟩
  | bytes b t => exact ⟨t, rfl⟩
  | _ => exact False.elim x
theorem vals_toV {A : List Addr} : ∀ {vs : List Value}, (∀ u ∈ vs, OkU A u) → Vals (vs.map toV) vs
  | [], _ => .nil
  | u :: r, h => .cons (relV_toV (h u (List.mem_cons_self ..))) (vals_toV fun x hx => h x (List.mem_cons_of_mem _ hx))
/-- an object of the arguments -/
def ArgOb (h : Heap) (A : List Addr) (a : Addr) : Prop := ∃ vs : List Value, vs.length ≤ sizeLine ∧ (∀ u ∈ vs, OkU A u) ∧
  (h.get? a = some { cls := .type "list", data := .seq vs.toArray } ∨ h.get? a = some { cls := .type "tuple", data := .seq vs.toArray })
theorem ArgOb.mono {h : Heap} {A B : List Addr} {a : Addr} (k : ∀ a ∈ A, a ∈ B) (x : ArgOb h A a) : ArgOb h B a := by
  obtain ⟨vs, h1, h2, h3⟩ := x
  exact ⟨vs, h1, fun u hu => (h2 u hu).mono k, h3⟩
theorem wellAll_len {P : Params} {h : Heap} : ∀ {vs : List Value} {ds : List WData}, WellAll P h vs ds → vs.length = ds.length
  | _, _, .nil => rfl
  | _, _, .cons _ b => by
    show _ + 1 = _ + 1
    rw [wellAll_len b]
theorem well_list {P : Params} {h : Heap} {v : Value} {ds : List WData} (x : Well P h v (.list ds)) : ∃ (a : Addr) (vs : List Value), v = .ref a ∧ h.get? a = some { cls := .type "list", data := .seq vs.toArray } ∧ WellAll P h vs ds := by
  cases x with
  | list ho hall => exact ⟨_, _, rfl, ho, hall⟩
theorem well_tuple {P : Params} {h : Heap} {v : Value} {ds : List WData} (x : Well P h v (.tuple ds)) : ∃ (a : Addr) (vs : List Value), v = .ref a ∧ h.get? a = some { cls := .type "tuple", data := .seq vs.toArray } ∧ WellAll P h vs ds := by
  cases x with
  | tuple ho hall => exact ⟨_, _, rfl, ho, hall⟩
theorem well_cons {P : Params} {h : Heap} {us : List Value} {d : WData} {ds : List WData} (x : WellAll P h us (d :: ds)) : ∃ (v : Value) (vs : List Value), us = v :: vs ∧ Well P h v d ∧ WellAll P h vs ds := by
  cases x with
  | cons a b => exact ⟨_, _, rfl, a, b⟩
theorem line_of {n : Nat} (h : n ≤ 1048576) : n ≤ sizeLine := Nat.le_trans h (by decide)
section
variable {P : Params} {h : Heap}
mutual
theorem area_one : ∀ (d : WData) (v : Value), Well P h v d → plW d = true → d.weight ≤ 1048576 → ∃ A : List Addr, OkU A v ∧ ∀ a ∈ A, ArgOb h A a
  | .none, _, x, _, _ => by
    cases x
    exact ⟨[], trivial, fun a m => absurd m (by simp)⟩
  | .bool b, _, x, _, _ => by
    cases x
    exact ⟨[], trivial, fun a m => absurd m (by simp)⟩
  | .int i, _, x, _, _ => by
    cases x
    exact ⟨[], trivial, fun a m => absurd m (by simp)⟩
  | .str s, _, x, _, _ => by
    cases x
    exact ⟨[], trivial, fun a m => absurd m (by simp)⟩
  | .bytes b, _, x, _, _ => by
    cases x
    exact ⟨[], trivial, fun a m => absurd m (by simp)⟩
  | .list ds, _, x, p, z => by
    obtain ⟨a, vs, rfl, ho, hall⟩ := well_list x
    have z2 : WData.weightAll ds ≤ 1048576 := z
    obtain ⟨A, h1, h2⟩ := area_all ds _ hall p fun d hd => Nat.le_trans (weight_mem hd) z2
    have k : ∀ b ∈ A, b ∈ a :: A := fun b hb => List.mem_cons_of_mem _ hb
    refine ⟨a :: A, List.mem_cons_self .., fun b hb => ?_⟩
    rcases List.mem_cons.mp hb with e | m
    · rw [e]
      exact ⟨vs, line_of (by rw [wellAll_len hall]; exact Nat.le_trans (PySem.W.length_le_weightAllW ds) z2), fun u hu => (h1 u hu).mono k, .inl ho⟩
    · exact (h2 b m).mono k
  | .tuple ds, _, x, p, z => by
    obtain ⟨a, vs, rfl, ho, hall⟩ := well_tuple x
    have z2 : WData.weightAll ds ≤ 1048576 := z
    obtain ⟨A, h1, h2⟩ := area_all ds _ hall p fun d hd => Nat.le_trans (weight_mem hd) z2
    have k : ∀ b ∈ A, b ∈ a :: A := fun b hb => List.mem_cons_of_mem _ hb
    refine ⟨a :: A, List.mem_cons_self .., fun b hb => ?_⟩
    rcases List.mem_cons.mp hb with e | m
    · rw [e]
      exact ⟨vs, line_of (by rw [wellAll_len hall]; exact Nat.le_trans (PySem.W.length_le_weightAllW ds) z2), fun u hu => (h1 u hu).mono k, .inr ho⟩
    · exact (h2 b m).mono k
  | .float _, _, _, p, _ => Bool.noConfusion (show false = true from p)
  | .dict _, _, _, p, _ => Bool.noConfusion (show false = true from p)
  | .bytearray _, _, _, p, _ => Bool.noConfusion (show false = true from p)
  | .set _, _, _, p, _ => Bool.noConfusion (show false = true from p)
  | .frozenset _, _, _, p, _ => Bool.noConfusion (show false = true from p)
  | .obj _ _, _, _, p, _ => Bool.noConfusion (show false = true from p)
theorem area_all : ∀ (ds : List WData) (vs : List Value), WellAll P h vs ds → plWs ds = true → (∀ d ∈ ds, d.weight ≤ 1048576) → ∃ A : List Addr, (∀ u ∈ vs, OkU A u) ∧ ∀ a ∈ A, ArgOb h A a
  | [], _, x, _, _ => by
    cases x
    exact ⟨[], fun u m => absurd m (by simp), fun a m => absurd m (by simp)⟩
  | d :: ds, _, x, p, z => by
    obtain ⟨v, vs, rfl, x1, x2⟩ := well_cons x
    have q : plW d = true ∧ plWs ds = true := Bool.and_eq_true_iff.mp p
    obtain ⟨A, a1, a2⟩ := area_one d v x1 q.1 (z d (List.mem_cons_self ..))
    obtain ⟨B, b1, b2⟩ := area_all ds vs x2 q.2 fun e he => z e (List.mem_cons_of_mem _ he)
    have kA : ∀ b ∈ A, b ∈ A ++ B := fun b hb => List.mem_append.mpr (.inl hb)
    have kB : ∀ b ∈ B, b ∈ A ++ B := fun b hb => List.mem_append.mpr (.inr hb)
    refine ⟨A ++ B, fun u hu => ?_, fun b hb => ?_⟩
    · rcases List.mem_cons.mp hu with e | m
      · rw [e]
        exact a1.mono kA
      · exact (b1 u m).mono kB
    · rcases List.mem_append.mp hb with m | m
      · exact (a2 b m).mono kA
      · exact (b2 b m).mono kB
end
end
/-- what is tracked of an argument's object -/
def hoOf (o : Obj) : Option HO := match o.data with
  | .seq vs _ => if (o.cls == Value.type "list") = true then some (.frz o (.lst (vs.toList.map toV))) else some (.frz o (.tup (vs.toList.map toV)))
  | _ => none
def argH (K : PySem.W.Frag) (h : Heap) (A : List Addr) : Hp := fun b => if b ∈ A then (if (K.lookup b).isNone = true then (h.get? b).bind hoOf else none) else none
/-- nothing is tracked but what is known to the object -/
def OnlyF (H : Hp) : Prop := ∀ b, H b = none ∨ ∃ o u, H b = some (.frz o u)
theorem hoOf_lst (vs : List Value) : hoOf { cls := .type "list", data := .seq vs.toArray } = some (.frz { cls := .type "list", data := .seq vs.toArray } (.lst (vs.map toV))) := by
  show (if (Value.type "list" == Value.type "list") = true then some (HO.frz { cls := .type "list", data := .seq vs.toArray } (.lst (vs.toArray.toList.map toV))) else some (HO.frz { cls := .type "list", data := .seq vs.toArray } (.tup (vs.toArray.toList.map toV)))) = _
  rw [if_pos (beq_self_eq_true _)]
theorem hoOf_tup (vs : List Value) : hoOf { cls := .type "tuple", data := .seq vs.toArray } = some (.frz { cls := .type "tuple", data := .seq vs.toArray } (.tup (vs.map toV))) := by
  show (if (Value.type "tuple" == Value.type "list") = true then some (HO.frz { cls := .type "tuple", data := .seq vs.toArray } (.lst (vs.toArray.toList.map toV))) else some (HO.frz { cls := .type "tuple", data := .seq vs.toArray } (.tup (vs.toArray.toList.map toV)))) = _
  rw [if_neg (by decide)]
section
variable {P : Program} {w : World} {K : PySem.W.Frag} {h : Heap} {A : List Addr}
theorem argH_at {b : Addr} {o : Obj} (hb : b ∈ A) (hk : K.lookup b = none) (e : h.get? b = some o) : argH K h A b = hoOf o := by
  unfold argH
  rw [if_pos hb, hk, if_pos (show (none : Option Obj).isNone = true from rfl), e] <;> rfl
theorem of_argH {b : Addr} {u : HO} (q : argH K h A b = some u) : b ∈ A ∧ K.lookup b = none := by
  unfold argH at q
  by_cases hb : b ∈ A
  · rw [if_pos hb] at q
    cases hk : K.lookup b with
    | none => exact ⟨hb, rfl⟩
    | some o =>
      rw [hk, if_neg (by simp)] at q
      cases q
  · rw [if_neg hb] at q
    cases q
/-- what stands tracked -/
theorem argH_is (ar : ∀ a ∈ A, ArgOb h A a) {b : Addr} {u : HO} (q : argH K h A b = some u) : K.lookup b = none ∧ ∃ vs : List Value, vs.length ≤ sizeLine ∧ (∀ u ∈ vs, OkU A u) ∧
    ((h.get? b = some { cls := .type "list", data := .seq vs.toArray } ∧ u = .frz { cls := .type "list", data := .seq vs.toArray } (.lst (vs.map toV))) ∨
     (h.get? b = some { cls := .type "tuple", data := .seq vs.toArray } ∧ u = .frz { cls := .type "tuple", data := .seq vs.toArray } (.tup (vs.map toV)))) := by
  obtain ⟨hb, hk⟩ := of_argH q
  obtain ⟨vs, h1, h2, h3⟩ := ar b hb
  refine ⟨hk, vs, h1, h2, ?_⟩
  rcases h3 with e | e
  · rw [argH_at hb hk e, hoOf_lst] at q
    exact .inl ⟨e, (Option.some.inj q).symm⟩
  · rw [argH_at hb hk e, hoOf_tup] at q
    exact .inr ⟨e, (Option.some.inj q).symm⟩
theorem argH_only (ar : ∀ a ∈ A, ArgOb h A a) : OnlyF (argH K h A) := fun b => by
  cases q : argH K h A b with
  | none => exact .inl rfl
  | some u =>
    obtain ⟨_, vs, _, _, ⟨_, e⟩ | ⟨_, e⟩⟩ := argH_is ar q
    · exact .inr ⟨_, _, by rw [e]⟩
    · exact .inr ⟨_, _, by rw [e]⟩
theorem argH_ok (ar : ∀ a ∈ A, ArgOb h A a) : HOk P w (argH K h A) h := fun b u q => by
  obtain ⟨_, vs, h1, h2, ⟨e, rfl⟩ | ⟨e, rfl⟩⟩ := argH_is ar q
  · exact ⟨e, by rw [List.length_map]; exact h1, vs, _, vals_toV h2, e⟩
  · exact ⟨e, by rw [List.length_map]; exact h1, vs, vals_toV h2, _, e, rfl, _, rfl⟩
theorem seq_inj {c c' : Value} {vs us : List Value} (e : (some { cls := c, data := .seq vs.toArray } : Option Obj) = some { cls := c', data := .seq us.toArray }) : c = c' ∧ vs = us := by
  have e1 := Option.some.inj e
  have e2 : c = c' := congrArg Obj.cls e1
  have e3 : Data.seq vs.toArray = Data.seq us.toArray := congrArg Obj.data e1
  injection e3 with e4
  refine ⟨e2, ?_⟩
  have e5 := congrArg Array.toList e4
  simpa using e5
/-- a list argument -/
theorem argL (KX : K.In h) (ar : ∀ a ∈ A, ArgOb h A a) {a : Addr} {vs : List Value} (ha : a ∈ A) (e : h.get? a = some { cls := .type "list", data := .seq vs.toArray }) : (∀ u ∈ vs, OkU A u) ∧ SqL K (argH K h A) a (vs.map toV) := by
  obtain ⟨us, h1, h2, h3⟩ := ar a ha
  have hu : us = vs := by
    rcases h3 with q | q
    · rw [e] at q
      exact (seq_inj q).2.symm
    · rw [e] at q
      exact absurd (Value.type.inj (seq_inj q).1) (by decide)
  subst hu
  refine ⟨h2, ?_⟩
  cases hk : K.lookup a with
  | none => exact .inl (.inr ⟨_, by rw [argH_at ha hk e, hoOf_lst]⟩)
  | some o =>
    have e2 := KX a o hk
    rw [e] at e2
    obtain rfl := Option.some.inj e2
    exact .inr ⟨_, us.toArray, _, hk, rfl, rfl, rfl, by rw [List.size_toArray]; exact h1, by simpa using vals_toV h2⟩
theorem argT (KX : K.In h) (ar : ∀ a ∈ A, ArgOb h A a) {a : Addr} {vs : List Value} (ha : a ∈ A) (e : h.get? a = some { cls := .type "tuple", data := .seq vs.toArray }) : (∀ u ∈ vs, OkU A u) ∧ SqT K (argH K h A) a (vs.map toV) := by
  obtain ⟨us, h1, h2, h3⟩ := ar a ha
  have hu : us = vs := by
    rcases h3 with q | q
    · rw [e] at q
      exact absurd (Value.type.inj (seq_inj q).1) (by decide)
    · rw [e] at q
      exact (seq_inj q).2.symm
  subst hu
  refine ⟨h2, ?_⟩
  cases hk : K.lookup a with
  | none => exact .inl (.inr ⟨_, by rw [argH_at ha hk e, hoOf_tup]⟩)
  | some o =>
    have e2 := KX a o hk
    rw [e] at e2
    obtain rfl := Option.some.inj e2
    exact .inr ⟨_, us.toArray, _, hk, rfl, rfl, by rw [List.size_toArray]; exact h1, by simpa using vals_toV h2⟩
mutual
theorem dw_one {Pm : Params} (KX : K.In h) (ar : ∀ a ∈ A, ArgOb h A a) : ∀ (d : WData) (v : Value), Well Pm h v d → plW d = true → OkU A v → Dw K (argH K h A) (toV v) d
  | .none, _, x, _, _ => by
    cases x
    exact .non
  | .bool b, _, x, _, _ => by
    cases x
    exact .bl b
  | .int i, _, x, _, _ => by
    cases x
    exact .int i
  | .str s, _, x, _, _ => by
    cases x
    exact .str s
  | .bytes b, _, x, _, _ => by
    cases x
    have z := Dw.byt (K := K) (H := argH K h A) b.toArray
    exact z
  | .list ds, _, x, p, hu => by
    obtain ⟨a, vs, rfl, ho, hall⟩ := well_list x
    obtain ⟨h2, hs⟩ := argL KX ar hu ho
    exact .lst hs (dw_all KX ar ds _ hall p h2)
  | .tuple ds, _, x, p, hu => by
    obtain ⟨a, vs, rfl, ho, hall⟩ := well_tuple x
    obtain ⟨h2, hs⟩ := argT KX ar hu ho
    exact .tup hs (dw_all KX ar ds _ hall p h2)
  | .float _, _, _, p, _ => Bool.noConfusion (show false = true from p)
  | .dict _, _, _, p, _ => Bool.noConfusion (show false = true from p)
  | .bytearray _, _, _, p, _ => Bool.noConfusion (show false = true from p)
  | .set _, _, _, p, _ => Bool.noConfusion (show false = true from p)
  | .frozenset _, _, _, p, _ => Bool.noConfusion (show false = true from p)
  | .obj _ _, _, _, p, _ => Bool.noConfusion (show false = true from p)
theorem dw_all {Pm : Params} (KX : K.In h) (ar : ∀ a ∈ A, ArgOb h A a) : ∀ (ds : List WData) (vs : List Value), WellAll Pm h vs ds → plWs ds = true → (∀ u ∈ vs, OkU A u) → DwAll K (argH K h A) (vs.map toV) ds
  | [], _, x, _, _ => by
    cases x
    exact .nil
  | d :: ds, _, x, p, hu => by
    obtain ⟨v, vs, rfl, x1, x2⟩ := well_cons x
    have q : plW d = true ∧ plWs ds = true := Bool.and_eq_true_iff.mp p
    exact .cons (dw_one KX ar d v x1 q.1 (hu _ (List.mem_cons_self ..))) (dw_all KX ar ds vs x2 q.2 fun u m => hu u (List.mem_cons_of_mem _ m))
end
end
/-! ### the row -/
theorem layable_weight {ds : List WData} (h : WData.layableAll ds = true) : ∀ d ∈ ds, d.weight ≤ 1048576 := fun d hd =>
  (PySem.W.layableW_iff.mp (List.all_eq_true.mp h d hd)).2.2
theorem encAll_len : ∀ (cs : List Codec) (a : Codec.denoteAll cs), (Codec.encAll cs a).length = cs.length
  | [], _ => rfl
  | c :: cs, a => by
    show (Codec.encAll cs a.2).length + 1 = cs.length + 1
    rw [encAll_len cs a.2]
end L2
-- rests on (row put in by the clerk, for the bench that shows a file only what it spells): KE.SpHead KE.OsShapes
end
end

section
set_option Elab.async false
set_option linter.all false
set_option maxRecDepth 100000
set_option maxHeartbeats 2000000
namespace Sb
open PySem PySem.Spec PyProof.Rows PySem.W
section
variable {prog : Program} {w : World} {A : Around} {E : Value → Shared → Prop} {s : Shared}
/-- the items of a range put behind an empty list -/
theorem iadd_range {r S : Addr} {a b c : Int} {t u v : Tok} {n k : Nat} {R : Result → Shared → Prop} (free : A.handled = none) (rg : IsRange s.heap r a b c t u v) (few : Builtin.Range.small a b c = true) (size : Builtin.Range.rangeSize a b c = n) (most : n ≤ 2 ^ 24)
    (there : s.heap.get? S = some { cls := .type "list", data := .seq #[] k })
    (go : ∀ h' tk acc e, (∀ x o, x ≠ S → s.heap.get? x = some o → h'.get? x = some o) → h'.get? S = some { cls := .type "list", data := .seq acc e } → ItemsOf (fun i v => ∃ t, v = .int (a + i * c) t) acc n → R (.ok (.ret (.ref S))) { s with heap := h', toks := tk }) :
    codeAny (model prog w) A (.builtin "list.__iadd__" ⟨[.ref S, .ref r], []⟩) R s :=
  codeAny_builtin F.entry_list_iadd (by rw [Around.under_plainId F.plain_list_iadd]; exact wpAny_extend_range free rg few size most S (.ref S) k there go)
/-- collect of a range object -/
theorem collect_range {r : Addr} {a b c : Int} {t u v : Tok} {n : Nat} {Q : List Value → Shared → Prop} (free : A.handled = none) (rg : IsRange s.heap r a b c t u v) (few : Builtin.Range.small a b c = true) (size : Builtin.Range.rangeSize a b c = n) (most : n ≤ 2 ^ 24)
    (go : ∀ (h' : Heap) (tk : Nat) (acc : Array Value), (∀ x o, s.heap.get? x = some o → h'.get? x = some o) → s.heap.objs.size < h'.objs.size → ItemsOf (fun i v => ∃ t, v = .int (a + i * c) t) acc n → Q acc.toList { s with heap := h', toks := tk }) :
    wpAny (model prog w) A (collect (.ref r)) Q E s := by
  have old : ∀ x o, s.heap.get? x = some o → x ≠ s.heap.objs.size ∧ (s.heap.push { cls := .type "list", data := .seq #[] }).get? x = some o := fun x o z => ⟨Nat.ne_of_lt (Heap.lt_size z), Heap.get?_push_of_some _ z⟩
  refine wpAny_bind (wpAny_runValue (codeAny_builtin F.entry_proto_collect (wpAny_bind (wpAny_newObj_type (wpAny_pure ⟨plainId_quiet F.plain_list_iadd _, ?_⟩)))))
  refine iadd_range (S := s.heap.objs.size) (k := 0) free (old _ _ rg).2 few size most (Heap.get?_push_size _ rfl) fun h' tk acc _ kept there items => ?_
  exact wpAny_bind (wpAny_load there (wpAny_pure (go h' tk acc (fun x o z => kept x o (old x o z).1 (old x o z).2) (Heap.lt_size there) items)))
/-- a new frame: all that stood there stands there -/
theorem env_keeps {g g' : Heap} {new : Obj} {x : Addr} {u : Obj} (d : Heap.SameBut g.objs.size (g.push new) g') (z : g.get? x = some u) : g'.get? x = some u := by
  have lt : x < g.objs.size := Heap.lt_size z
  have ne : x ≠ g.objs.size := Nat.ne_of_lt lt
  rw [d.2 x ne]
  exact Heap.get?_push_of_some new z
/-- a lambda that gives back an item of the list its cell holds -/
theorem lam_call {f c' cK aK : Addr} {pm ctv : Value} {qual x y : Str} {params : Arguments} {scope : Scope} {p1 p2 p3 : Pos} {vs : List Value} {i : Nat} {k : Int} {t t' : Tok} {Q : Value → Shared → Prop}
    (ho : s.heap.get? f = some (kla_obj "<lambda>" qual params (.Subscript (.Name x p1) (.Name y p2) p3) scope [(x, cK)] pm c' ctv)) (hcd : s.heap.CodeRec (.ref c') qual) (hlim : s.heap.NoLimit) (hroom : A.depth < recursionLimit)
    (hbind : ∀ v : Value, bindArgs (kla_fn "<lambda>" qual params (.Subscript (.Name x p1) (.Name y p2) p3) scope [(x, cK)] pm (.ref c') ctv) ⟨[v], []⟩ = pure [(y, v)])
    (hy : scope.names.lookup y = some .local) (hx : scope.names.lookup x = some .free) (hco : scope.isCoroutine = false) (hgen : scope.isGenerator = false) (hk : scope.kind = .function) (hnc : ∀ z ∈ scope.names, z.2 ≠ .cell)
    (hcell : s.heap.IsCell cK (some (.ref aK))) (hl : s.heap.IsList aK vs.toArray) (hv : vs[i]? = some (.int k t')) (hi : (i : Int) < 2 ^ 63)
    (h : ∀ h' tk, (∀ b o, s.heap.get? b = some o → h'.get? b = some o) → Q (.int k t') { s with heap := h', toks := tk })
    (hd1 : (x == ("__debug__" : Str)) = false := by decide) (hd2 : (y == ("__debug__" : Str)) = false := by decide) (hd3 : (x == ("__classdict__" : Str)) = false := by decide) :
    wpAny (model prog w) A (call (.ref f) [.int i t]) Q E s := by
  refine wpAny_call (kla_callFunE hroom ho rfl hco hgen rfl hcd ?_)
  rw [hbind]
  refine wpAny_pure (wpAny_newFunctionEnv hnc (fun z hz => ?_) (fun h₁ hns hsb => ⟨hlim.fresh _ hsb, ?_⟩) hk)
  · rw [List.mem_singleton.mp hz]; exact hy
  refine kla_codeExpr ?_
  refine Subscript_ (wpAny_Name (wpAny_loadName_free (c := cK) (v := .ref aK) hk hx ?_ ?_ ?_ hd3) hd1)
  · show List.lookup x [(x, cK)] = some cK
    simp [List.lookup]
  · obtain ⟨o, e, d⟩ := hcell
    exact ⟨o, env_keeps hsb e, d⟩
  refine wpAny_Name (wpAny_loadName_local hk hy hns (v := .int i t) ?_ ?_) hd2
  · show List.lookup y [(y, Value.int i t)] = _
    simp [List.lookup]
  obtain ⟨o, e, d⟩ := hl
  exact item_listR ⟨o, env_keeps hsb e, d⟩ (by omega) hi (by simpa using hv) (h _ _ fun _ _ => env_keeps hsb) rfl
/-- the places below n, by their keys -/
def Placed (kz : List Int) (o : List Nat) : Prop := o.Perm (List.range kz.length) ∧ o.Pairwise (fun a b => kz.getD a 0 ≤ kz.getD b 0) ∧ o.Pairwise (fun a b => kz.getD a 0 = kz.getD b 0 → a < b)
/-- what holds of the rows of one key holds of any two of one key -/
theorem rows_pairwise {α : Type} (f : α → Int) (S : α → α → Prop) : ∀ (l : List α), (∀ c, (l.filter fun p => f p == c).Pairwise S) → l.Pairwise (fun p q => f p = f q → S p q)
  | [], _ => .nil
  | p :: l, h => by
    refine List.pairwise_cons.mpr ⟨fun q hq e => ?_, rows_pairwise f S l fun c => ?_⟩
    · have := h (f p)
      rw [List.filter_cons, if_pos (by simp)] at this
      exact (List.pairwise_cons.mp this).1 q (List.mem_filter.mpr ⟨hq, by rw [e]; simp⟩)
    · have := h c
      rw [List.filter_cons] at this
      split at this
      · exact (List.pairwise_cons.mp this).2
      · exact this
theorem placed_of {kz : List Int} {acc : Array Value} {out : List Value} (hacc : ItemsOf (fun i v => ∃ t, v = .int (0 + (i : Nat) * 1) t) acc kz.length) (ho : KskOutSt false kz acc.toList out) :
    ∃ o : List Nat, Placed kz o ∧ IntsAre out (o.map fun (i : Nat) => (i : Int)) := by
  obtain ⟨ps, hp, rfl, hs, hst⟩ := ho
  have hz : ∀ p ∈ kz.zip acc.toList, ∃ i : Nat, p.1 = kz.getD i 0 ∧ ∃ t, p.2 = Value.int i t := fun p hp => by
    obtain ⟨i, hi, e⟩ := List.getElem_of_mem hp
    rw [List.getElem_zip] at e
    rw [List.length_zip] at hi
    subst e
    have hv : acc[i]? = some acc.toList[i] := by rw [← Array.getElem?_toList, List.getElem?_eq_getElem]
    obtain ⟨t, e⟩ := hacc.2 i _ hv
    refine ⟨i, ?_, t, ?_⟩
    · rw [List.getD_eq_getElem?_getD, List.getElem?_eq_getElem (by omega)]; rfl
    · show acc.toList[i] = _
      rw [e, show (0 : Int) + (i : Int) * 1 = (i : Int) by omega]
  have hz' : ∀ p ∈ ps, ∃ i : Nat, p.1 = kz.getD i 0 ∧ ∃ t, p.2 = Value.int i t := fun p h => hz p (hp.mem_iff.mp h)
  have hN : ∀ {p : Int × Value} {i : Nat} {t : Tok}, p.2 = Value.int i t → (numOf p.2).toNat = i := fun {p i t} e => by rw [e]; rfl
  refine ⟨ps.map fun p => (numOf p.2).toNat, ⟨?_, ?_, ?_⟩, ?_⟩
  · refine (hp.map _).trans (List.Perm.of_eq ?_)
    apply List.ext_getElem
    · rw [List.length_map, List.length_zip, List.length_range, Array.length_toList (xs := acc), hacc.1, Nat.min_self]
    · intro i h1 h2
      rw [List.getElem_map, List.getElem_range, List.getElem_zip]
      have hi : i < acc.toList.length := by rw [Array.length_toList, hacc.1]; simpa using h2
      have hv : acc[i]? = some acc.toList[i] := by rw [← Array.getElem?_toList, List.getElem?_eq_getElem]
      obtain ⟨t, e⟩ := hacc.2 i _ hv
      show (numOf acc.toList[i]).toNat = i
      rw [e]
      show ((0 : Int) + (i : Int) * 1).toNat = i
      omega
  · rw [List.pairwise_map]
    refine List.Pairwise.imp_of_mem (fun {p q} in1 in2 le => ?_) hs
    obtain ⟨i, e1, t1, e2⟩ := hz' p in1
    obtain ⟨j, e3, t2, e4⟩ := hz' q in2
    have le' : p.1 ≤ q.1 := le
    rw [hN e2, hN e4, ← e1, ← e3]
    exact le'
  · rw [List.pairwise_map]
    refine (rows_pairwise Prod.fst (fun p q => (numOf p.2).toNat < (numOf q.2).toNat) ps fun c => ?_).imp_of_mem fun {p q} hp' hq' hr => ?_
    · rw [hst c]
      refine List.Pairwise.filter _ (List.pairwise_iff_getElem.mpr fun i j h1 h2 h3 => ?_)
      have hz2 : ∀ k (hk : k < (kz.zip acc.toList).length), (numOf (kz.zip acc.toList)[k].2).toNat = k := fun k hk => by
        rw [List.getElem_zip]
        have hk' : k < acc.toList.length := by rw [List.length_zip] at hk; omega
        have hv : acc[k]? = some acc.toList[k] := by rw [← Array.getElem?_toList, List.getElem?_eq_getElem]
        obtain ⟨t, e⟩ := hacc.2 k _ hv
        show (numOf acc.toList[k]).toNat = k
        rw [e]
        show ((0 : Int) + (k : Int) * 1).toNat = k
        omega
      rw [hz2 i h1, hz2 j h2]
      exact h3
    · obtain ⟨i, e1, t1, e2⟩ := hz' p hp'
      obtain ⟨j, e3, t2, e4⟩ := hz' q hq'
      intro e
      exact hr (by rw [e1, e3, ← hN e2, ← hN e4]; exact e)
  · rw [List.map_map]
    have : ∀ (l : List (Int × Value)), (∀ p ∈ l, ∃ i : Nat, p.1 = kz.getD i 0 ∧ ∃ t, p.2 = Value.int i t) → IntsAre (l.map Prod.snd) (l.map ((fun (i : Nat) => (i : Int)) ∘ fun p => (numOf p.2).toNat)) := by
      intro l
      induction l with
      | nil => intro _; exact .nil
      | cons p l ih =>
        intro h
        obtain ⟨i, _, t, e⟩ := h p (by simp)
        have e2 : ((fun (i : Nat) => (i : Int)) ∘ fun (p : Int × Value) => (numOf p.2).toNat) p = (i : Int) := by
          show (((numOf p.2).toNat : Nat) : Int) = i
          rw [hN e]
        rw [List.map_cons, List.map_cons, e2, e]
        exact .cons _ t (ih fun q hq => h q (by simp [hq]))
    exact this ps hz'
theorem sorted_range {kz : List Int} {q r L : Addr} {h₀ : Heap} {m : Str → Option Value} {news : List (Addr × Obj)} {t u v : Tok} {Q : Value → Shared → Prop} (F : Fr h₀ L s.heap m) (N : News h₀ L s.heap news) (hh : A.handled = none)
    (hr : IsRange s.heap r 0 (kz.length : Nat) 1 t u v) (hn : kz.length ≤ 2 ^ 24)
    (turn : ∀ (i : Nat) (k : Int) (t : Tok), kz[i]? = some k → ∀ (h : Heap) (tk : Nat) (own : List (Addr × Obj)), Fr h₀ L h m → News h₀ L h (news ++ own) →
      wpAny (model prog w) A.in1.in1 (call (.ref q) [.int i t]) (KskEnd h₀ L m (news ++ own) k { s with heap := h, toks := tk }) (fun _ _ => False) { s with heap := h, toks := tk })
    (h : ∀ (D : Addr) (h' : Heap) (tk : Nat) (out : Array Value) (c : Nat) (o : List Nat), Fr h₀ L h' m → News h₀ L h' ((D, seqObj "list" out c) :: news) → s.heap.objs.size ≤ D → (∀ b ob, s.heap.get? b = some ob → b < D) → Placed kz o → IntsAre out.toList (o.map fun (i : Nat) => (i : Int)) →
      Q (.ref D) { s with toks := tk, heap := h' }) :
    wpAny (model prog w) A (call (.builtin "sorted") [.ref r] [(Str.ofString "key", .ref q)]) Q E s := by
  refine call_function_entry_kw kind_sorted plain_sorted entry_sorted (ksk_s1 _ _) ?_
  unfold Builtin.«sorted»
  refine wpAny_bind (m := checkCount "sorted" 1 1 _) (wpAny_pure (wpAny_bind (collect_range (n := kz.length) hh hr (small_one (by omega) (by omega) (by omega) (by omega)) (by rw [rangeSize_one]; split <;> omega) hn fun h1 tk1 acc keep hsl hacc => ?_)))
  have hsz : acc.toList.length = kz.length := by rw [Array.length_toList]; exact hacc.1
  refine wpAny_bind (wpAny_newList ?_ (by rw [sizeLine_eq, hsz]; omega))
  have F1 : Fr h₀ L h1 m := F.kept keep
  have N1 : News h₀ L h1 news := N.grown keep
  have keep2 : ∀ b o, h1.get? b = some o → (h1.push (seqObj "list" acc.toList.toArray 0)).get? b = some o := fun b o e => Heap.get?_push_of_some _ e
  have hoL : (h1.push (seqObj "list" acc.toList.toArray 0)).get? h1.objs.size = some (seqObj "list" acc.toList.toArray 0) := Heap.get?_push_size _ rfl
  have hL : L < h1.objs.size := F1.ns.lt
  have hle : ∀ b ob, s.heap.get? b = some ob → b < h1.objs.size := fun b ob e => Heap.lt_size (keep b ob e)
  refine wpAny_bind (wpAny_holding (wpAny_call_entry_kw slot_list_sort ⟨_, hoL, rfl⟩ entry_list_sort ?body (ksk_l1 _ _)))
  case body =>
    show wpAny (model prog w) A.in1.in1 (Builtin.«list.sort» ⟨[.ref h1.objs.size], [(Str.ofString "key", .ref q)]⟩) _ _ _
    rw [ksk_t1]
    refine ksk_sortSt (s := { s with heap := h1.push (seqObj "list" acc.toList.toArray 0), toks := tk1 }) (kz := kz) (F1.kept keep2) (N1.grown keep2) hoL (Nat.ne_of_gt hL) (Heap.get?_none_of_le (Nat.le_trans F.above (Nat.le_of_lt hL)))
      (fun p hp => Nat.ne_of_lt (Heap.lt_size (N1 p hp).1)) hsz.symm (by rw [sizeLine_eq, hsz]; omega) (fun i v k hv hk h tk own F' N' => ?_) fun h' tk out c F' N' k' => ⟨_, rfl, ?_⟩
    · obtain ⟨t, e⟩ := hacc.2 i v (by rw [← Array.getElem?_toList]; exact hv)
      rw [show (0 : Int) + (i : Int) * 1 = (i : Int) by omega] at e
      subst e
      exact turn i k t hk h tk own F' N'
    · obtain ⟨o, ho, hi⟩ := placed_of hacc k'
      exact wpAny_pure ⟨_, rfl, h _ h' tk out c o F' N' (Nat.le_of_lt hsl) hle ho hi⟩
end
end Sb
end

section
set_option Elab.async false
set_option linter.all false
set_option maxRecDepth 100000
set_option maxHeartbeats 2000000
namespace L2
open PySem PySem.Spec PyProof.Rows
section
variable {X : Cx} {pins : List (Addr × Obj)} {σ : St} {H : Hp} {s : Shared} {h' : Heap}
theorem ns_det {h : Heap} {a : Addr} {m m' : Str → Option Value} (x : h.Ns a m) (y : h.Ns a m') : m = m' := by
  obtain ⟨o, es, ep, e, d, _, r⟩ := x
  obtain ⟨o', es', ep', e', d', _, r'⟩ := y
  rw [e] at e'; cases e'
  rw [d] at d'; cases d'
  funext n
  rw [← r n, ← r' n]
/-- a new object laid and tracked; the frame's object may be another, with the same names -/
theorem Inv.laidL {a : Addr} {o : HO} {t' : Nat} (I : Inv X pins σ H s) (k : ∀ b u, b ≠ X.env.locals → s.heap.get? b = some u → h'.get? b = some u) (ns : ∀ m, s.heap.Ns X.env.locals m → h'.Ns X.env.locals m)
    (hp : s.heap.objs.size ≤ a) (new : ObjOk X.prog X.w (upd H a o) h' a o) : Inv X pins σ (upd H a o) { s with heap := h', toks := t' } := by
  have hn := I.hok.fresh hp
  have hlt : ∀ b u, s.heap.get? b = some u → b ≠ a := fun b u e z => absurd (Nat.lt_of_lt_of_le (Heap.lt_size e) hp) (by rw [z]; exact Nat.lt_irrefl _)
  have nL : ∀ b u, H b = some u → b ≠ X.env.locals := fun b u e z => by rw [z, I.free] at e; cases e
  refine I.step (g' := s.gens) (d' := s.drawn) (ch := []) (fun _ z => nomatch z) (fun b o hL _ _ e _ => k b o hL e) (fun b o hL _ _ e _ => ⟨o.slots, k b o hL e⟩) (fun b o _ e n => by rw [upd_ne (hlt b o e)]; exact n) (fun b o _ e => ?_)
    (fun b xs e => by rw [upd_ne (ne_of_none e hn)]; exact e) (fun b o u e => by rw [upd_ne (ne_of_none e hn)]; exact e) (fun b ps e => ⟨#[], by rw [upd_ne (ne_of_none e hn), e]; simp⟩) ns (fun b u e => ?_) I.bare
  · by_cases hL : b = X.env.locals
    · obtain ⟨m, hm, _⟩ := I.loc
      obtain ⟨o', _, _, e', _⟩ := ns m hm
      exact ⟨o', by rw [hL]; exact e'⟩
    · exact ⟨o, k b o hL e⟩
  · by_cases hb : b = a
    · subst hb; rw [upd_same] at e; cases e; exact new
    · rw [upd_ne hb] at e
      refine (I.hok b u e).stay (fun c v hc q => k c v ?_ q) (fun c q => by rw [upd_ne (ne_of_none q hn)]; exact q) fun c xs q => by rw [upd_ne (ne_of_none q hn)]; exact q
      rcases hc with z | z
      · rw [z]; exact nL b u e
      · exact nL c _ z
/-- all that stood but the frame stands, by the ledger -/
theorem kept_all {g h h' : Heap} {L : Addr} {m : Str → Option Value} {own : List (Addr × Obj)} (F : Fr g L h' m) (N : News g L h' (allNews g h L ++ own)) (k : ∀ b o, g.get? b = some o → h.get? b = some o) : ∀ b o, b ≠ L → h.get? b = some o → h'.get? b = some o := fun b o h1 e => by
  cases q : g.get? b with
  | some u =>
    have := k b u q
    rw [e] at this; cases this
    exact F.keep b _ q
  | none => exact (N (b, o) (List.mem_append_left _ (mem_allNews h1 q e))).1
/-- range(j) as a value -/
def tRng (ta : TA) : TE := fun σ H Q => ta σ H fun vs H1 => ∃ j : Int, vs = [.int j] ∧ -(2 ^ 62) ≤ j ∧ j < 2 ^ 62 ∧ ∀ r, H1 r = none → Q (.ref r) (upd H1 r (.rng 0 j))
theorem pe_rng {a : Expr} {ta : TA} {p pos : Pos} (hg : Gl X "range") (hm : X.mg "range" = none) (ha : PA X [a] ta) (hs : starEach [a] X.env = [(false, eval a X.env)] := by rfl) : PE X (.Call (.Name "range" p) [a] [] pos) (tRng ta) := by
  intro pins s σ H Q I h
  refine Call_ (ld_blt I hg hm boot_range (PyProof.Rows.callWith_type1 (thn (ha pos pins s σ H _ I h) fun us s1 ⟨vs, H1, I1, r1, q1⟩ => ?_) hs rfl))
  obtain ⟨j, e, q1, q2, q⟩ := q1
  subst e
  cases r1 with
  | cons r rr =>
    cases rr
    obtain ⟨t, rfl⟩ := r
    refine call_range_1 ?_
    have hf : H1 s1.heap.objs.size = none := I1.hok.fresh (Nat.le_refl _)
    exact ⟨.ref s1.heap.objs.size, _, I1.laid (o := .rng 0 j) (fun b u e => Heap.get?_push_of_some _ e) (Nat.le_refl _) ⟨_, _, _, Heap.get?_push_size _ rfl⟩, rfl, q _ hf⟩
/-- the code of a lambda -/
def coded (c : Addr) (qual : Str) : HO := .ext fun h => h.CodeRec (.ref c) qual
/-- the table of a def's code that has one lambda: empty, or with the lambda's code -/
def TabOk (P : Addr) (lp : Pos) (qual : Str) (H : Hp) : Prop := H P = some (.tbl #[]) ∨ ∃ c, H P = some (.tbl #[rawInt lp.line, rawInt lp.col, .ref c]) ∧ H c = some (coded c qual)
/-- all else is as it was -/
def Grow (P : Addr) (lp : Pos) (qual : Str) (H H' : Hp) : Prop := (∀ b u, H b = some u → b ≠ P → H' b = some u) ∧ TabOk P lp qual H'
theorem coded_ok {P : Program} {w : World} {H : Hp} {h : Heap} {c : Addr} {qual : Str} (x : h.CodeRec (.ref c) qual) : ObjOk P w H h c (coded c qual) := by
  obtain ⟨c', o, vs, t, e, ho, r⟩ := id x
  cases e
  refine ⟨x, ⟨o, ho⟩, fun h1 h2 ⟨c', o, vs, t, e, ho, r⟩ k => ?_⟩
  cases e
  exact ⟨c, o, vs, t, rfl, k o ho, r⟩
/-- a lambda is made: its code stands in the def's table from the first time on -/
theorem lam_make {params : Arguments} {body : Expr} {scope : Scope} {lp : Pos} {c P : Addr} {clos : List (Str × Addr)} {Q : Value → Shared → Prop} {E : Value → Shared → Prop} (I : Inv X pins σ H s)
    (hcode : X.env.code = .ref c) (C : PySem.W.CodeHd X.base c P) (hb : X.base.BuiltinsAt X.mg P) (hcl : closureFor scope X.env = pure clos) (hdef : defaultsOf params X.env = ([], [])) (T : TabOk P lp (X.env.qual ++ "<lambda>") H)
    (h : ∀ (s' : Shared) (H' : Hp) (f c' : Addr) (ctv pm : Value), Inv X pins σ H' s' → Grow P lp (X.env.qual ++ "<lambda>") H H' → (∀ b u, s.heap.get? b = some u → b ≠ P → s'.heap.get? b = some u) → s.heap.objs.size ≤ f → f ≠ X.env.locals →
      s'.heap.get? f = some (PySem.W.kla_obj "<lambda>" (X.env.qual ++ "<lambda>") params body scope clos pm c' ctv) → s'.heap.CodeRec (.ref c') (X.env.qual ++ "<lambda>") → c' ≠ X.env.locals → s'.gens = s.gens → s'.drawn = s.drawn → s'.os = s.os → Q (.ref f) s') :
    wpAny (model X.prog X.w) X.A (eval (.Lambda params body scope lp) X.env) Q E s := by
  refine PySem.W.kla_eval hdef ?_
  have hgs : s.heap.Ns mainGlobals X.mg := I.ok.mod.glob.keeps I.bk
  have hbs : s.heap.BuiltinsAt X.mg P := by
    obtain ⟨bm, ob, b1, b2, b3, b4, b5, b6⟩ := hb
    exact ⟨bm, ob, b1, b2, b3, b4, I.bk _ _ b5, b6⟩
  have hL : X.env.locals ≠ P := fun z => by
    rcases T with T | ⟨_, T, _⟩ <;> rw [← z, I.free] at T <;> cases T
  rcases T with T | ⟨c', T, Tc⟩
  · have hP : s.heap.get? P = some (PySem.W.tabObj #[]) := I.hok P _ T
    have hgP : mainGlobals ≠ P := fun z => by
      obtain ⟨o, _, _, e, _⟩ := I.ok.mod.glob
      have := (I.bs mainGlobals o e).2
      rw [z, T] at this; cases this
    refine PySem.W.kla_makeFunction (mg := X.mg) hcl I.ok.glob hgs hcode (C.keeps I.bk) hP trivial rfl hgP hbs fun c' ctv h' tk hx hge hlt hrec htb => ?_
    have htb : h'.get? P = some (PySem.W.tabObj #[rawInt lp.line, rawInt lp.col, .ref c']) := by simpa using htb
    have hcn : H c' = none := I.hok.fresh hge
    have hcP : c' ≠ P := fun z => by rw [z, T] at hcn; cases hcn
    have ltc : ∀ b u, s.heap.get? b = some u → b ≠ c' := fun b u e z => absurd (Nat.lt_of_lt_of_le (Heap.lt_size e) hge) (by rw [z]; exact Nat.lt_irrefl _)
    have nP : ∀ b, H b = none → b ≠ P := fun b e z => by rw [z, T] at e; cases e
    have k2 : ∀ b u, b ≠ P → s.heap.get? b = some u → (h'.push (PySem.W.kla_obj "<lambda>" (X.env.qual ++ "<lambda>") params body scope clos ((X.mg "__name__").getD .none) c' ctv)).get? b = some u := fun b u hb e => Heap.get?_push_of_some _ (hx b u hb e)
    have rec2 := hrec
    obtain ⟨c2, oc, vs, t2, e2, hoc, rr⟩ := rec2
    cases e2
    have hrec' : (h'.push (PySem.W.kla_obj "<lambda>" (X.env.qual ++ "<lambda>") params body scope clos ((X.mg "__name__").getD .none) c' ctv)).CodeRec (.ref c') (X.env.qual ++ "<lambda>") := ⟨c', oc, vs, t2, rfl, Heap.get?_push_of_some _ hoc, rr⟩
    have g2 : ∀ b u, H b = some u → b ≠ P → upd (upd H P (.tbl #[rawInt lp.line, rawInt lp.col, .ref c'])) c' (coded c' (X.env.qual ++ "<lambda>")) b = some u := fun b u e hb => by
      rw [upd_ne (ne_of_none e hcn), upd_ne hb]; exact e
    have gP : upd (upd H P (.tbl #[rawInt lp.line, rawInt lp.col, .ref c'])) c' (coded c' (X.env.qual ++ "<lambda>")) P = some (.tbl #[rawInt lp.line, rawInt lp.col, .ref c']) := by
      rw [upd_ne hcP.symm, upd_same]
    have gN : ∀ b, H b = none → b ≠ c' → upd (upd H P (.tbl #[rawInt lp.line, rawInt lp.col, .ref c'])) c' (coded c' (X.env.qual ++ "<lambda>")) b = none := fun b e hb => by
      rw [upd_ne hb, upd_ne (nP b e)]; exact e
    refine h _ (upd (upd H P (.tbl #[rawInt lp.line, rawInt lp.col, .ref c'])) c' (coded c' (X.env.qual ++ "<lambda>"))) h'.objs.size c' ctv ((X.mg "__name__").getD .none) ?_ ⟨g2, .inr ⟨c', gP, upd_same⟩⟩ (fun b u e hb => k2 b u hb e) (Nat.le_of_lt (Nat.lt_of_le_of_lt hge hlt)) ?_ (Heap.get?_push_size _ rfl) hrec' ?_ rfl rfl rfl
    · refine I.step (g' := s.gens) (d' := s.drawn) (ch := []) (fun _ z => nomatch z) (fun b o _ _ _ e n => k2 b o (nP b n) e) (fun b o _ _ _ e n => ⟨o.slots, k2 b o (nP b n) e⟩) (fun b o _ e n => gN b n (ltc b o e)) (fun b o _ e => ?_)
        (fun b xs e => g2 b _ e fun z => by rw [z, T] at e; cases e) (fun b o u e => g2 b _ e fun z => by rw [z, T] at e; cases e) (fun b ps e => ?_) (fun m hm => (hm.extBut hx hL).push _) (fun b u e => ?_) I.bare
      · by_cases hbP : b = P
        · exact ⟨_, by rw [hbP]; exact Heap.get?_push_of_some _ htb⟩
        · exact ⟨o, k2 b o hbP e⟩
      · by_cases hbP : b = P
        · subst hbP
          rw [T] at e; cases e
          exact ⟨#[rawInt lp.line, rawInt lp.col, .ref c'], by rw [gP]; simp⟩
        · exact ⟨#[], by rw [g2 b _ e hbP]; simp⟩
      · by_cases hbc : b = c'
        · subst hbc
          rw [upd_same] at e; cases e
          exact coded_ok hrec'
        · rw [upd_ne hbc] at e
          by_cases hbP : b = P
          · subst hbP
            rw [upd_same] at e; cases e
            exact Heap.get?_push_of_some _ htb
          · rw [upd_ne hbP] at e
            refine (I.hok b u e).stay (fun c v hc q => k2 c v ?_ q) (fun c q => g2 c _ q fun z => by rw [z, T] at q; cases q) fun c xs q => g2 c _ q fun z => by rw [z, T] at q; cases q
            rcases hc with z | z
            · rw [z]; exact hbP
            · exact fun y => by rw [y, T] at z; cases z
    · exact Nat.ne_of_gt (Nat.lt_of_lt_of_le I.lt (Nat.le_of_lt (Nat.lt_of_le_of_lt hge hlt)))
    · exact Nat.ne_of_gt (Nat.lt_of_lt_of_le I.lt hge)
  · have hP : s.heap.get? P = some (PySem.W.tabObj #[rawInt lp.line, rawInt lp.col, .ref c']) := I.hok P _ T
    have hrec : s.heap.CodeRec (.ref c') (X.env.qual ++ "<lambda>") := (I.hok c' _ Tc).1
    refine PySem.W.kla_makeFunctionHit (mg := X.mg) (cv := .ref c') hcl I.ok.glob hgs hcode (C.keeps I.bk) hP ?_ ?_ hbs fun ctv h' tk hk hsz => ?_
    · exact trivial
    · show codeAmong lp [rawInt lp.line, rawInt lp.col, .ref c'] = _
      simp [codeAmong, rawInt]
    obtain ⟨c2, oc, vs, t2, e2, hoc, rr⟩ := hrec
    cases e2
    have k2 : ∀ b u, s.heap.get? b = some u → (h'.push (PySem.W.kla_obj "<lambda>" (X.env.qual ++ "<lambda>") params body scope clos ((X.mg "__name__").getD .none) c' ctv)).get? b = some u := fun b u e => Heap.get?_push_of_some _ (hk b u e)
    refine h _ H h'.objs.size c' ctv ((X.mg "__name__").getD .none) (I.kept k2) ⟨fun b u e _ => e, .inr ⟨c', T, Tc⟩⟩ (fun b u e _ => k2 b u e) hsz (Nat.ne_of_gt (Nat.lt_of_lt_of_le I.lt hsz)) (Heap.get?_push_size _ rfl) ⟨c', oc, vs, t2, rfl, k2 _ _ hoc, rr⟩ ?_ rfl rfl rfl
    exact fun z => by rw [z, I.free] at Tc; cases Tc
/-- sorted(range(len(x)), key=lambda y: x[y]) -/
def tSortBy (K : PySem.W.Frag) (P : Addr) (lp : Pos) (qual : Str) : TE := fun σ H Q => ∃ (a : Addr) (kz : List Int), σ[0]? = some (some (.ref a)) ∧ SqL K H a (kz.map V.int) ∧ kz.length ≤ 2 ^ 24 ∧ TabOk P lp qual H ∧
  ∀ (p : Addr) (o : List Nat) (H' : Hp), Sb.Placed kz o → Grow P lp qual H H' → H p = none → H' p = some (.lst (o.map fun (i : Nat) => V.int i)) → Q (.ref p) H'
theorem vals_nats : ∀ {o : List Nat} {us : List Value}, IntsAre us (o.map fun (i : Nat) => (i : Int)) → Vals (o.map fun (i : Nat) => V.int i) us
  | [], _, h => by cases h; exact .nil
  | i :: o, _, h => by
    cases h with
    | cons _ t h => exact .cons ⟨t, rfl⟩ (vals_nats h)
theorem pe_sortBy {params : Arguments} {scope : Scope} {lp kp p1 p2 p3 q1 q2 q3 q4 q5 q6 q7 : Pos} {c P cK : Addr} {x y : Str} {k : Nat} (hc : X.calm = true) (hr : Room k X.A) (hcode : X.env.code = .ref c) (C : PySem.W.CodeHd X.base c P) (hb : X.base.BuiltinsAt X.mg P)
    (hN : X.N[0]? = some x) (hx : X.env.kindOf x = some .cell) (hcK : X.env.cells.lookup x = some cK) (hcl : closureFor scope X.env = pure [(x, cK)]) (hdef : defaultsOf params X.env = ([], []))
    (g1 : Gl X "sorted") (m1 : X.mg "sorted" = none) (g2 : Gl X "range") (m2 : X.mg "range" = none) (g3 : Gl X "len") (m3 : X.mg "len" = none)
    (hbind : ∀ (pm cv ctv v : Value) , bindArgs (PySem.W.kla_fn "<lambda>" (X.env.qual ++ "<lambda>") params (.Subscript (.Name x p1) (.Name y p2) p3) scope [(x, cK)] pm cv ctv) ⟨[v], []⟩ = pure [(y, v)])
    (hy : scope.names.lookup y = some .local) (hxf : scope.names.lookup x = some .free) (hco : scope.isCoroutine = false) (hgen : scope.isGenerator = false) (hk : scope.kind = .function) (hnc : ∀ z ∈ scope.names, z.2 ≠ .cell)
    (hd1 : (x == ("__debug__" : Str)) = false := by decide) (hd2 : (y == ("__debug__" : Str)) = false := by decide) (hd3 : (x == ("__classdict__" : Str)) = false := by decide) :
    PE X (.Call (.Name "sorted" q1) [.Call (.Name "range" q2) [.Call (.Name "len" q3) [.Name x q4] [] q5] [] q6] [⟨some "key", .Lambda params (.Subscript (.Name x p1) (.Name y p2) p3) scope lp, kp⟩] q7)
      (tSortBy X.K P lp (X.env.qual ++ "<lambda>")) := by
  intro pins s σ H Q I h
  obtain ⟨a, kz, e0, hS, hz, T, fin⟩ := h
  refine wpAny_Call_Name_kw (ld_blt I g1 m1 boot_sorted ?_)
  refine callWith_kw ?_
  have hpa : PA X [.Call (.Name "range" q2) [.Call (.Name "len" q3) [.Name x q4] [] q5] [] q6] (tCons (tRng (tCons (tCB _ (tCons (tVar 0) tNil)) tNil)) tNil) :=
    pa_cons (pe_rng g2 m2 (pa_cons (pe_callB call_len_seq g3 m3 PySem.boot_len (pa_cons (pe_var hN (.inr (.inl hx)) hd1 hd3) pa_nil)) pa_nil)) pa_nil
  refine thn (hpa q7 pins s σ H (fun vs H1 => ∃ r, vs = [.ref r] ∧ H r = none ∧ H1 = upd H r (.rng 0 kz.length)) I ?_) fun us s1 ⟨vs, H1, I1, r1, r, ev, hr0, eH⟩ => ?_
  · refine ⟨_, e0, _, _, rfl, .inl hS, _, rfl, ?_, ?_, fun r hr => ⟨r, rfl, hr, ?_⟩⟩
    · rw [List.length_map]; omega
    · rw [List.length_map]; omega
    · rw [List.length_map]
  subst ev eH
  obtain ⟨u, rfl, ru⟩ := vals1 r1
  cases ru
  have T1 : TabOk P lp (X.env.qual ++ "<lambda>") (upd H r (.rng 0 kz.length)) := by
    rcases T with T | ⟨c', T, Tc⟩
    · exact .inl (by rw [upd_ne (ne_of_none T hr0)]; exact T)
    · exact .inr ⟨c', by rw [upd_ne (ne_of_none T hr0)]; exact T, by rw [upd_ne (ne_of_none Tc hr0)]; exact Tc⟩
  refine kws_cons (lam_make I1 hcode C hb hcl hdef T1 fun s2 H2 f c' ctv pm I2 G2 k2 hf hfL hfo hrec hcL _ _ _ => ?_)
  refine kws_nil ?_
  show wpAny _ _ (call (.builtin "sorted") [.ref r] [(Str.ofString "key", .ref f)]) _ _ s2
  have hrP : r ≠ P := fun z => by
    rcases T with T | ⟨_, T, _⟩ <;> rw [← z, hr0] at T <;> cases T
  have hR : H2 r = some (.rng 0 kz.length) := G2.1 r _ upd_same hrP
  obtain ⟨t1, t2, t3, hrng⟩ := I2.hok r _ hR
  obtain ⟨m, F2⟩ := I2.fr
  -- the cell, the list
  obtain ⟨ml, hnl, hloc⟩ := I2.loc
  obtain ⟨ux, rx, lx⟩ := hloc 0 x (.ref a) hN e0 (.inr (.inl hx))
  cases rx
  have hcell : s2.heap.IsCell cK (some (.ref a)) := by
    rcases lx with ⟨z, _⟩ | ⟨_, c2, e2, z⟩
    · rw [hx] at z; cases z
    · rw [hcK] at e2; cases e2; exact z
  have S2 : SqL X.K H2 a (kz.map V.int) := by
    have nP : ∀ {o u : HO}, H a = some o → (∀ ps, o ≠ .tbl ps) → a ≠ P := fun {o u} e n z => by
      rcases T with T | ⟨_, T, _⟩ <;> rw [← z, e] at T <;> cases T <;> exact n _ rfl
    rcases hS with (hS | ⟨o, hS⟩) | hS
    · exact .inl (.inl (G2.1 a _ (by rw [upd_ne (ne_of_none hS hr0)]; exact hS) (nP (u := .rng 0 0) hS fun _ z => by cases z)))
    · exact .inl (.inr ⟨o, G2.1 a _ (by rw [upd_ne (ne_of_none hS hr0)]; exact hS) (nP (u := .rng 0 0) hS fun _ z => by cases z)⟩)
    · exact .inr hS
  obtain ⟨its, rv, hpl, _⟩ := I2.list S2
  have hlist : s2.heap.IsList a its.toArray := hpl.isList
  have haL : a ≠ X.env.locals := fun z => by
    obtain ⟨o1, _, _, e1, d1, _⟩ := hnl
    obtain ⟨o2, e2, _, n2, d2⟩ := hlist
    rw [z, e1] at e2; cases e2
    rw [d1] at d2; cases d2
  have hcKL : cK ≠ X.env.locals := I2.cne x cK hcK
  have dp : X.A.in1.in1.depth < recursionLimit := hr.depth
  refine Sb.sorted_range (kz := kz) (m := m) F2 (news_all (h := s2.heap)) (I.ok.hd hc) hrng hz (fun i ki ti hki h tk own F' N' => ?_) fun D h' tk out cc o F' N' hD hlt hpl2 hints => ?_
  · have keep := kept_all F' N' I2.bk
    obtain ⟨w0, hw0, rw0⟩ := rv.get (i := i) (x := .int ki) (by rw [List.getElem?_map, hki]; rfl)
    obtain ⟨tw, rfl⟩ := rw0
    refine Sb.lam_call (s := { s2 with heap := h, toks := tk }) (aK := a) (vs := its) (cK := cK) (keep f _ hfL hfo) ?_ ((I2.ok.mod.nolimit).keeps F'.keep) dp (hbind pm (.ref c') ctv) hy hxf hco hgen hk hnc ?_ ?_ hw0 ?_ (fun h2 tk2 kp => ⟨h2, tk2, tw, rfl, rfl, F'.kept kp, N'.grown kp⟩) hd1 hd2 hd3
    · obtain ⟨c2, oc, vs, t2, e2, hoc, rr⟩ := hrec
      cases e2
      exact ⟨c', oc, vs, t2, rfl, keep c' oc hcL hoc, rr⟩
    · obtain ⟨oc, eo, d⟩ := hcell
      exact ⟨oc, keep cK oc hcKL eo, d⟩
    · obtain ⟨ol, eo, d⟩ := hlist
      exact ⟨ol, keep a ol haL eo, d⟩
    · have := (List.getElem?_eq_some_iff.mp hki).1
      omega
  · have keep := kept_all (own := []) F' (fun p hp => N' p (List.mem_cons_of_mem _ (by simpa using hp))) I2.bk
    have hDn : H2 D = none := I2.hok.fresh hD
    have I3 := I2.laidL (a := D) (o := .lst (o.map fun (i : Nat) => V.int i)) (t' := tk) keep (fun m' hm' => by rw [ns_det hm' F2.ns]; exact F'.ns) hD
      ⟨by
        rw [List.length_map, hpl2.1.length_eq, List.length_range, sizeLine_eq]
        omega, out.toList, cc, vals_nats hints, by
        have := (N' (D, seqObj "list" out cc) (by simp)).1
        simpa using this⟩
    have eq2 : ∀ b u, H b = some u → b ≠ P → upd H2 D (.lst (o.map fun (i : Nat) => V.int i)) b = some u := fun b u e hbP => by
      have e1 := G2.1 b u (by rw [upd_ne (ne_of_none e hr0)]; exact e) hbP
      rw [upd_ne (ne_of_none e1 hDn)]; exact e1
    have hDH : H D = none := by
      cases q : H D with
      | none => rfl
      | some u =>
        by_cases hDP : D = P
        · rcases G2.2 with T | ⟨_, T, _⟩ <;> rw [← hDP, hDn] at T <;> cases T
        · have := eq2 D u q hDP
          have e1 := G2.1 D u (by rw [upd_ne (ne_of_none q hr0)]; exact q) hDP
          rw [hDn] at e1; cases e1
    refine ⟨.ref D, _, I3, rfl, fin D o _ hpl2 ⟨eq2, ?_⟩ hDH upd_same⟩
    rcases G2.2 with T | ⟨c2, T, Tc⟩
    · exact .inl (by rw [upd_ne (ne_of_none T hDn)]; exact T)
    · exact .inr ⟨c2, by rw [upd_ne (ne_of_none T hDn)]; exact T, by rw [upd_ne (ne_of_none Tc hDn)]; exact Tc⟩
end
end L2
end

section
set_option Elab.async false
set_option linter.all false
set_option maxRecDepth 100000
set_option maxHeartbeats 2000000
namespace Lst
open PySem PySem.Spec PyProof.Rows
/-- two rows of numbers, number by number: is the first one before the other? -/
def ltI : List Int → List Int → Bool
  | _, [] => false
  | [], _ :: _ => true
  | a :: s, b :: t => if a = b then ltI s t else decide (a < b)
theorem ltI_over (t : List Int) : ltI [] t = decide (0 < t.length) := by cases t <;> simp [ltI]
theorem ltI_none (t : List Int) : ltI t [] = false := by cases t <;> rfl
/-- what stands at a place of a row of ints -/
theorem ints_at {its : Array Value} {xs : List Int} (hx : IntsAre its.toList xs) (i : Nat) : (xs[i]? = none ∧ its[i]? = none) ∨ ∃ x t, xs[i]? = some x ∧ its[i]? = some (.int x t) := by
  rw [← Array.getElem?_toList]
  cases e : xs[i]? with
  | none => exact .inl ⟨rfl, List.getElem?_eq_none (by rw [hx.length]; exact List.getElem?_eq_none_iff.mp e)⟩
  | some x => obtain ⟨t, z⟩ := hx.get i x e; exact .inr ⟨x, t, rfl, z⟩
theorem drop_at {xs : List Int} {i : Nat} {x : Int} (e : xs[i]? = some x) : i < xs.length ∧ xs.drop i = x :: xs.drop (i + 1) := by
  obtain ⟨h, rfl⟩ := List.getElem?_eq_some_iff.mp e
  exact ⟨h, List.drop_eq_getElem_cons h⟩
theorem ltI_end {xs ys : List Int} {i : Nat} (h1 : i ≤ xs.length) (h2 : i ≤ ys.length) (h : xs[i]? = none ∨ ys[i]? = none) : ltI (xs.drop i) (ys.drop i) = decide (xs.length < ys.length) := by
  rcases h with h | h
  · have : xs.length = i := Nat.le_antisymm (List.getElem?_eq_none_iff.mp h) h1
    rw [List.drop_eq_nil_iff.mpr (by omega), ltI_over, List.length_drop, Bool.eq_iff_iff, decide_eq_true_iff, decide_eq_true_iff]
    omega
  · have : ys.length ≤ i := List.getElem?_eq_none_iff.mp h
    rw [List.drop_eq_nil_iff.mpr this, ltI_none]
    exact (decide_eq_false (by omega)).symm
section
variable {prog : Program} {w : World} {l b : Addr} {p q : Obj} {its jts : Array Value} {n m : Nat} {xs ys : List Int}
/-- the comparison from place i on -/
theorem lt_from (dp : p.data = .seq its n) (dq : q.data = .seq jts m) (hx : IntsAre its.toList xs) (hy : IntsAre jts.toList ys) (i : Nat) (h1 : i ≤ xs.length) (h2 : i ≤ ys.length) {A : Around} {R : Result → Shared → Prop} {s : Shared}
    (hl : s.heap.get? l = some p) (hb : s.heap.get? b = some q) (h : R (.ok (.ret (.bool (ltI (xs.drop i) (ys.drop i))))) s) : codeAny (model prog w) A (.builtin "list.__eq__.loop" ⟨[.ref l, .ref b, rawInt i, rawInt 0], []⟩) R s := by
  refine codeAny_builtin MeetsSeq3.entry_eq_loop ?_
  rw [Around.under_plainId MeetsSeq3.plain_eq_loop]
  refine wpAny_bind (listItems_at hl dp (wpAny_bind (listItems_at hb dq ?_)))
  have sz : its.size = xs.length ∧ jts.size = ys.length := ⟨by rw [← Array.length_toList]; exact hx.length, by rw [← Array.length_toList]; exact hy.length⟩
  have over : (xs[i]? = none ∨ ys[i]? = none) → R (.ok (.ret (.bool (decide (its.size < jts.size))))) s := fun z => by
    rw [sz.1, sz.2, ← ltI_end h1 h2 z]; exact h
  rw [show ((i : Nat) : Int).toNat = i from rfl]
  rcases ints_at hx i with ⟨ex, vx⟩ | ⟨x, t, ex, vx⟩
  · rw [vx]
    exact wpAny_bind (listItems_at hl dp (wpAny_bind (listItems_at hb dq (wpAny_pure (over (.inl ex))))))
  rcases ints_at hy i with ⟨ey, vy⟩ | ⟨y, u, ey, vy⟩
  · rw [vx, vy]
    exact wpAny_bind (listItems_at hl dp (wpAny_bind (listItems_at hb dq (wpAny_pure (over (.inr ey))))))
  rw [vx, vy]
  rw [(drop_at ex).2, (drop_at ey).2] at h
  refine wpAny_bind (SeqAt.EqAt.int_int x t y u prog w _ _ ?_)
  by_cases e : x = y
  · rw [show ltI (x :: xs.drop (i + 1)) (y :: ys.drop (i + 1)) = ltI (xs.drop (i + 1)) (ys.drop (i + 1)) from if_pos e] at h
    rw [if_pos (beq_iff_eq.mpr e)]
    exact wpAny_pure ⟨plainId_quiet MeetsSeq3.plain_eq_loop _, lt_from dp dq hx hy (i + 1) (drop_at ex).1 (drop_at ey).1 hl hb h⟩
  · rw [show ltI (x :: xs.drop (i + 1)) (y :: ys.drop (i + 1)) = decide (x < y) from if_neg e] at h
    rw [if_neg (by rw [beq_iff_eq]; exact e)]
    refine wpAny_bind (listItems_at hl dp (wpAny_bind (listItems_at hb dq ?_)))
    rw [vx, vy]
    exact wpAny_bind (PyProof.Rows.lt_int (wpAny_pure h))
termination_by xs.length - i
decreasing_by have := (drop_at ex).1; omega
/-- of two whole lists -/
theorem lt_whole (cq : q.cls = .type "list") (dp : p.data = .seq its n) (dq : q.data = .seq jts m) (hx : IntsAre its.toList xs) (hy : IntsAre jts.toList ys) :
    Meets (Builtin.«list.__lt__» ⟨[.ref l, .ref b], []⟩) fun _ R s => (s.heap.get? l = some p ∧ s.heap.get? b = some q) ∧ R (.ok (.ret (.bool (ltI xs ys)))) s := by
  intro prog w A R s h
  refine wpAny_bind (wpAny_pure (wpAny_bind (wpAny_isInstance (b := true) ⟨q, h.1.2, cq⟩ AutoSeq1.sub_list_list ?_)))
  exact wpAny_pure ⟨plainId_quiet MeetsSeq3.plain_eq_loop _, lt_from dp dq hx hy 0 (Nat.zero_le _) (Nat.zero_le _) h.1.1 h.1.2 h.2⟩
end
end Lst
namespace L2
open PySem PySem.Spec PyProof.Rows Lst
section
variable {X : Cx}
/-- two lists of ints: < -/
def rLtL (K : PySem.W.Frag) : R2 := fun x y H Q => ∃ (a b : Addr) (xs ys : List Int), x = .ref a ∧ y = .ref b ∧ SqL K H a (xs.map V.int) ∧ SqL K H b (ys.map V.int) ∧ Q (.bl (ltI xs ys)) H
theorem op_ltL (hu : X.A.units < cLine) : OpR X (compareOp .Lt) (rLtL X.K) := by
  intro pins s σ H x y v u Q I rx ry h
  obtain ⟨a, b, xs, ys, rfl, rfl, hA, hB, k⟩ := h
  cases rx; cases ry
  obtain ⟨its, rv, ⟨o, n, ho, hc, _, hd⟩, _⟩ := I.list hA
  obtain ⟨jts, rw', ⟨o', m, ho', hc', _, hd'⟩, _⟩ := I.list hB
  exact richCompare_meets_room (op := .Lt) ⟨o, ho, hc⟩ ⟨o', ho', hc'⟩ F.slot_list_lt F.entry_list_lt (F.args_list_lt_2 _ _) (lt_whole hc' hd hd' (by simpa using intsAre_of rv) (by simpa using intsAre_of rw'))
    ⟨⟨ho, ho'⟩, (fun z => nomatch z), .bl _, H, I, rfl, k⟩ hu
/-- == -/
def rEqL (K : PySem.W.Frag) : R2 := fun x y H Q => ∃ (a b : Addr) (xs ys : List Int), x = .ref a ∧ y = .ref b ∧ SqL K H a (xs.map V.int) ∧ SqL K H b (ys.map V.int) ∧ Q (.bl (decide (xs = ys))) H
theorem op_eqL (hu : X.A.units < cLine) : OpR X (compareOp .Eq) (rEqL X.K) := by
  intro pins s σ H x y v u Q I rx ry h
  obtain ⟨a, b, xs, ys, rfl, rfl, hA, hB, q⟩ := h
  cases rx; cases ry
  obtain ⟨its, rv, hp, _⟩ := I.list hA
  obtain ⟨its2, rv2, hp2, _⟩ := I.list hB
  have hl := hp.isList
  have hl2 := hp2.isList
  have e1 := rv.length
  have e2 := rv2.length
  rw [List.length_map] at e1 e2
  show wpAny _ _ (richCompare .Eq (.ref a) (.ref b)) _ _ _
  by_cases hsz : xs.length = ys.length
  · refine SeqAt.RcAt.lists (e := fun j => xs.getD j 0 == ys.getD j 0) hl hl2 (by simp only [List.size_toArray]; omega) hu (fun j h1 h2 => ?_) X.prog X.w X.xe _ ?_
    · have h1' : j < its.length := by simpa using h1
      have h2' : j < its2.length := by simpa using h2
      obtain ⟨u1, hu1, r1⟩ := rv.get (i := j) (x := .int (xs.getD j 0)) (by rw [List.getElem?_map, List.getElem?_eq_getElem (by omega), List.getD_eq_getElem?_getD, List.getElem?_eq_getElem (by omega)]; rfl)
      obtain ⟨u2, hu2, r2⟩ := rv2.get (i := j) (x := .int (ys.getD j 0)) (by rw [List.getElem?_map, List.getElem?_eq_getElem (by omega), List.getD_eq_getElem?_getD, List.getElem?_eq_getElem (by omega)]; rfl)
      obtain ⟨t1, rfl⟩ := r1
      obtain ⟨t2, rfl⟩ := r2
      have q1 : its.toArray[j] = .int (xs.getD j 0) t1 := by
        have := (List.getElem?_eq_some_iff.mp hu1).2
        simpa using this
      have q2 : its2.toArray[j] = .int (ys.getD j 0) t2 := by
        have := (List.getElem?_eq_some_iff.mp hu2).2
        simpa using this
      rw [q1, q2]
      exact SeqAt.EqAt.int_int _ _ _ _
    · have : ((List.range its.toArray.size).all fun j => xs.getD j 0 == ys.getD j 0) = decide (xs = ys) := by
        rw [List.size_toArray, ← e1, Bool.eq_iff_iff, List.all_eq_true, decide_eq_true_iff]
        constructor
        · intro h
          apply List.ext_getElem hsz
          intro i h1 h2
          have := h i (List.mem_range.mpr h1)
          rw [beq_iff_eq, List.getD_eq_getElem?_getD, List.getD_eq_getElem?_getD, List.getElem?_eq_getElem h1, List.getElem?_eq_getElem h2] at this
          exact this
        · rintro rfl i _
          exact beq_self_eq_true _
      rw [this]
      exact ⟨.bl _, H, I, rfl, q⟩
  · refine SeqAt.RcAt.lists_lengths hl hl2 (by simp only [List.size_toArray, bne_iff_ne]; omega) hu X.prog X.w X.xe _ ?_
    rw [decide_eq_false (fun z => hsz (by rw [z]))] at q
    exact ⟨.bl _, H, I, rfl, q⟩
end
end L2
end

section
/-! The order of rows of bytes; the ends in order. -/
namespace TE
open Sw16
abbrev bf (a b : List Nat) : Prop := before a b = true
theorem bf_nil_nil : ¬ bf [] [] := by simp [bf, before]
theorem bf_cons_nil (a s) : ¬ bf (a :: s) [] := by simp [bf, before]
theorem bf_nil_cons (a s) : bf [] (a :: s) := by simp [bf, before]
theorem bf_cons (a b : Nat) (s t : List Nat) : bf (a :: s) (b :: t) ↔ a < b ∨ (a = b ∧ bf s t) := by
  simp only [bf, before]
  split
  · rename_i h; subst h; simp
  · rename_i h; simp [h]
theorem bf_irrefl : ∀ a : List Nat, ¬ bf a a
  | [] => bf_nil_nil
  | x :: s => by
    rw [bf_cons]
    rintro (h | h)
    · exact Nat.lt_irrefl _ h
    · exact bf_irrefl s h.2
theorem bf_trans : ∀ {a b c : List Nat}, bf a b → bf b c → bf a c
  | [], [], _, h, _ => (bf_nil_nil h).elim
  | [], _ :: _, [], _, h => (bf_cons_nil _ _ h).elim
  | [], _ :: _, _ :: _, _, _ => bf_nil_cons _ _
  | _ :: _, [], _, h, _ => (bf_cons_nil _ _ h).elim
  | _ :: _, _ :: _, [], _, h => (bf_cons_nil _ _ h).elim
  | x :: a, y :: b, z :: c, h1, h2 => by
    rw [bf_cons] at *
    have ih := @bf_trans a b c
    rcases h1 with h1 | ⟨h1, h1'⟩ <;> rcases h2 with h2 | ⟨h2, h2'⟩
    · left; omega
    · left; omega
    · left; omega
    · exact .inr ⟨by omega, ih h1' h2'⟩
theorem bf_total : ∀ a b : List Nat, bf a b ∨ a = b ∨ bf b a
  | [], [] => .inr (.inl rfl)
  | [], _ :: _ => .inl (bf_nil_cons _ _)
  | _ :: _, [] => .inr (.inr (bf_nil_cons _ _))
  | x :: a, y :: b => by
    rw [bf_cons, bf_cons]
    have ih := bf_total a b
    rcases Nat.lt_trichotomy x y with h | h | h
    · exact .inl (.inl h)
    · subst h
      rcases ih with h | h | h
      · exact .inl (.inr ⟨rfl, h⟩)
      · exact .inr (.inl (by rw [h]))
      · exact .inr (.inr (.inr ⟨rfl, h⟩))
    · exact .inr (.inr (.inl h))
theorem bf_asymm {a b : List Nat} (h : bf a b) : ¬ bf b a := fun h' => bf_irrefl a (bf_trans h h')
theorem bf_ne {a b : List Nat} (h : bf a b) : a ≠ b := fun e => bf_irrefl a (by rw [← e] at h; exact h)
theorem bf_of_not {a b : List Nat} (h : ¬ bf a b) (hn : a ≠ b) : bf b a := by
  rcases bf_total a b with h1 | h1 | h1
  · exact (h h1).elim
  · exact (hn h1).elim
  · exact h1
/-- before or the same -/
def be (a b : List Nat) : Prop := a = b ∨ bf a b
theorem be_iff {a b : List Nat} : be a b ↔ ¬ bf b a := by
  constructor
  · rintro (rfl | h)
    · exact bf_irrefl _
    · exact bf_asymm h
  · intro h
    rcases bf_total a b with h1 | h1 | h1
    · exact .inr h1
    · exact .inl h1
    · exact (h h1).elim
theorem be_refl (a) : be a a := .inl rfl
theorem be_trans {a b c} (h1 : be a b) (h2 : be b c) : be a c := by
  rcases h1 with rfl | h1
  · exact h2
  · rcases h2 with rfl | h2
    · exact .inr h1
    · exact .inr (bf_trans h1 h2)
theorem bf_be {a b c} (h1 : bf a b) (h2 : be b c) : bf a c := by
  rcases h2 with rfl | h2
  · exact h1
  · exact bf_trans h1 h2
theorem be_bf {a b c} (h1 : be a b) (h2 : bf b c) : bf a c := by
  rcases h1 with rfl | h1
  · exact h2
  · exact bf_trans h1 h2
theorem be_antisymm {a b} (h1 : be a b) (h2 : be b a) : a = b := by
  rcases h1 with h | h
  · exact h
  · exact ((be_iff.mp h2) h).elim
instance (a b : List Nat) : Decidable (bf a b) := inferInstanceAs (Decidable (_ = true))

/-! ### sorted lists are one -/
theorem sorted_unique {α : Type} {r : α → α → Prop} (hir : ∀ a, ¬ r a a) (htr : ∀ a b c, r a b → r b c → r a c) :
    ∀ {l m : List α}, l.Pairwise r → m.Pairwise r → (∀ x, x ∈ l ↔ x ∈ m) → l = m
  | [], [], _, _, _ => rfl
  | [], x :: _, _, _, h => by have := (h x).mpr (by simp); simp at this
  | x :: _, [], _, _, h => by have := (h x).mp (by simp); simp at this
  | x :: l, y :: m, hl, hm, h => by
    rw [List.pairwise_cons] at hl hm
    have hxy : x = y := by
      rcases List.mem_cons.mp ((h x).mp (by simp)) with e | e
      · exact e
      · rcases List.mem_cons.mp ((h y).mpr (by simp)) with e' | e'
        · exact e'.symm
        · exact (hir x (htr _ _ _ (hl.1 y e') (hm.1 x e))).elim
    subst hxy
    rw [sorted_unique hir htr hl.2 hm.2 fun z => ?_]
    constructor
    · intro hz
      rcases List.mem_cons.mp ((h z).mp (by simp [hz])) with e | e
      · subst e; exact (hir _ (hl.1 _ hz)).elim
      · exact e
    · intro hz
      rcases List.mem_cons.mp ((h z).mpr (by simp [hz])) with e | e
      · subst e; exact (hir _ (hm.1 _ hz)).elim
      · exact e

/-! ### insertBy -/
theorem insertBy_perm {α : Type} (f : α → α → Bool) (x : α) : ∀ l : List α, (insertBy f x l).Perm (x :: l)
  | [] => List.Perm.refl _
  | y :: l => by
    simp only [insertBy]
    split
    · exact List.Perm.refl _
    · exact ((insertBy_perm f x l).cons y).trans (List.Perm.swap x y l)
theorem insertBy_sorted {α : Type} (f : α → α → Bool) (tr : ∀ a b c, f a b = true → f b c = true → f a c = true) {x : α} :
    ∀ {l : List α}, (∀ y ∈ l, f x y = true ∨ f y x = true) → l.Pairwise (fun a b => f a b = true) → (insertBy f x l).Pairwise (fun a b => f a b = true)
  | [], _, _ => by simp [insertBy]
  | y :: l, ht, hl => by
    rw [List.pairwise_cons] at hl
    simp only [insertBy]
    split
    · rename_i h
      refine List.pairwise_cons.mpr ⟨fun z hz => ?_, List.pairwise_cons.mpr hl⟩
      rcases List.mem_cons.mp hz with rfl | hz
      · exact h
      · exact tr _ _ _ h (hl.1 z hz)
    · rename_i h
      refine List.pairwise_cons.mpr ⟨fun z hz => ?_, insertBy_sorted f tr (fun z hz => ht z (by simp [hz])) hl.2⟩
      rcases List.mem_cons.mp ((insertBy_perm f x l).mem_iff.mp hz) with rfl | hz
      · rcases ht y (by simp) with h' | h'
        · exact (h h').elim
        · exact h'
      · exact hl.1 z hz
theorem foldl_insertBy {α : Type} (f : α → α → Bool) (tr : ∀ a b c, f a b = true → f b c = true → f a c = true) :
    ∀ (xs acc : List α), (xs ++ acc).Nodup → (∀ a ∈ xs ++ acc, ∀ b ∈ xs ++ acc, a ≠ b → f a b = true ∨ f b a = true) → acc.Pairwise (fun a b => f a b = true) →
      (xs.foldl (fun l x => insertBy f x l) acc).Perm (xs ++ acc) ∧ (xs.foldl (fun l x => insertBy f x l) acc).Pairwise (fun a b => f a b = true)
  | [], acc, _, _, h => ⟨List.Perm.refl _, h⟩
  | x :: xs, acc, hn, ht, h => by
    have p1 : (xs ++ insertBy f x acc).Perm (x :: xs ++ acc) :=
      ((insertBy_perm f x acc).append_left xs).trans (List.perm_middle)
    have hs : (insertBy f x acc).Pairwise (fun a b => f a b = true) := by
      refine insertBy_sorted f tr (fun y hy => ?_) h
      refine ht x (by simp) y (by simp [hy]) fun e => ?_
      subst e
      have := (List.nodup_cons.mp hn).1
      exact this (List.mem_append_right _ hy)
    have := foldl_insertBy f tr xs (insertBy f x acc) (p1.nodup_iff.mpr hn) (fun a ha b hb => ht a (p1.mem_iff.mp ha) b (p1.mem_iff.mp hb)) hs
    exact ⟨this.1.trans p1, this.2⟩

/-! ### the ends in order -/
theorem end_ne {s : List Nat} {i j : Nat} (hi : i < s.length) (hj : j < s.length) (h : i ≠ j) : end_ s i ≠ end_ s j := fun e => by
  have := congrArg List.length e
  simp only [end_, List.length_drop] at this
  omega
theorem endsOf_spec (s : List Nat) : Ends s (endsOf s) := by
  have h := foldl_insertBy (fun a b => before (end_ s a) (end_ s b)) (fun a b c h1 h2 => bf_trans h1 h2) (List.range s.length) []
    (by simpa using List.nodup_range) (fun a ha b hb hab => by
      simp only [List.append_nil, List.mem_range] at ha hb
      rcases bf_total (end_ s a) (end_ s b) with h | h | h
      · exact .inl h
      · exact (end_ne ha hb hab h).elim
      · exact .inr h) (by simp)
  rw [List.append_nil] at h
  exact h
theorem ends_unique {s : List Nat} {l : List Nat} (h : Ends s l) : l = endsOf s := by
  have h' := endsOf_spec s
  refine sorted_unique (r := fun i j => before (end_ s i) (end_ s j) = true) (fun a => bf_irrefl _) (fun a b c => bf_trans) h.2 h'.2 fun x => ?_
  rw [h.1.mem_iff, h'.1.mem_iff]
theorem ends_length {s l : List Nat} (h : Ends s l) : l.length = s.length := by
  rw [h.1.length_eq, List.length_range]
theorem ends_lt {s l : List Nat} (h : Ends s l) {k : Nat} (hk : k < s.length) : l.getD k 0 < s.length := by
  have hk' : k < l.length := by rw [ends_length h]; exact hk
  have : l.getD k 0 ∈ l := by
    rw [List.getD_eq_getElem?_getD, List.getElem?_eq_getElem hk']
    simp
  exact List.mem_range.mp (h.1.mem_iff.mp this)
/-- of two ends in order the one with the smaller number is before -/
theorem ends_bf {s l : List Nat} (h : Ends s l) {a b : Nat} (hab : a < b) (hb : b < s.length) : bf (end_ s (l.getD a 0)) (end_ s (l.getD b 0)) := by
  have hb' : b < l.length := by rw [ends_length h]; exact hb
  have := List.pairwise_iff_getElem.mp h.2 a b (by omega) hb' hab
  simpa [List.getD_eq_getElem?_getD, List.getElem?_eq_getElem hb', List.getElem?_eq_getElem (show a < l.length by omega)] using this
theorem ends_bf_iff {s l : List Nat} (h : Ends s l) {a b : Nat} (ha : a < s.length) (hb : b < s.length) : bf (end_ s (l.getD a 0)) (end_ s (l.getD b 0)) ↔ a < b := by
  constructor
  · intro hh
    rcases Nat.lt_trichotomy a b with h1 | h1 | h1
    · exact h1
    · subst h1; exact (bf_irrefl _ hh).elim
    · exact (bf_asymm hh (ends_bf h h1 ha)).elim
  · intro hab; exact ends_bf h hab hb
theorem ends_inj {s l : List Nat} (h : Ends s l) {a b : Nat} (ha : a < s.length) (hb : b < s.length) (e : l.getD a 0 = l.getD b 0) : a = b := by
  rcases Nat.lt_trichotomy a b with h1 | h1 | h1
  · have := ends_bf h h1 hb; rw [e] at this; exact (bf_irrefl _ this).elim
  · exact h1
  · have := ends_bf h h1 ha; rw [e] at this; exact (bf_irrefl _ this).elim
theorem ends_surj {s l : List Nat} (h : Ends s l) {p : Nat} (hp : p < s.length) : ∃ k, k < s.length ∧ l.getD k 0 = p := by
  have : p ∈ l := h.1.mem_iff.mpr (List.mem_range.mpr hp)
  obtain ⟨k, hk, e⟩ := List.getElem_of_mem this
  exact ⟨k, by rw [← ends_length h]; exact hk, by rw [List.getD_eq_getElem?_getD, List.getElem?_eq_getElem hk, e]; rfl⟩
/-! ### places in some order -/
theorem perm_lt {o : List Nat} {n : Nat} (h : o.Perm (List.range n)) {k : Nat} (hk : k < n) : o.getD k 0 < n := by
  have hk' : k < o.length := by rw [h.length_eq, List.length_range]; exact hk
  have : o.getD k 0 ∈ o := by rw [List.getD_eq_getElem?_getD, List.getElem?_eq_getElem hk']; simp
  exact List.mem_range.mp (h.mem_iff.mp this)
theorem perm_inj {o : List Nat} {n : Nat} (h : o.Perm (List.range n)) {i j : Nat} (hi : i < n) (hj : j < n) (e : o.getD i 0 = o.getD j 0) : i = j := by
  have nd : o.Nodup := h.nodup_iff.mpr List.nodup_range
  have hl : o.length = n := by rw [h.length_eq, List.length_range]
  rw [List.getD_eq_getElem?_getD, List.getD_eq_getElem?_getD, List.getElem?_eq_getElem (by omega), List.getElem?_eq_getElem (by omega)] at e
  exact (List.getElem_inj nd).mp e
theorem perm_surj {o : List Nat} {n : Nat} (h : o.Perm (List.range n)) {p : Nat} (hp : p < n) : ∃ k, k < n ∧ o.getD k 0 = p := by
  obtain ⟨k, hk, e⟩ := List.getElem_of_mem (h.mem_iff.mpr (List.mem_range.mpr hp))
  exact ⟨k, by rw [h.length_eq, List.length_range] at hk; exact hk, by rw [List.getD_eq_getElem?_getD, List.getElem?_eq_getElem hk, e]; rfl⟩
end TE
end

section
/-! What two rows have in common; order by the first bytes. -/
namespace TE
open Sw16
theorem common_nil_left (t) : common [] t = 0 := by cases t <;> rfl
theorem common_nil_right (s) : common s [] = 0 := by cases s <;> rfl
theorem common_cons (a b : Nat) (s t : List Nat) : common (a :: s) (b :: t) = if a = b then common s t + 1 else 0 := rfl
theorem common_comm : ∀ a b : List Nat, common a b = common b a
  | [], b => by rw [common_nil_left, common_nil_right]
  | a, [] => by rw [common_nil_left, common_nil_right]
  | x :: a, y :: b => by
    rw [common_cons, common_cons, common_comm a b]
    by_cases h : x = y
    · rw [if_pos h, if_pos h.symm]
    · rw [if_neg h, if_neg (fun e => h e.symm)]
theorem common_self : ∀ a : List Nat, common a a = a.length
  | [] => rfl
  | x :: a => by rw [common_cons, if_pos rfl, common_self a, List.length_cons]
theorem common_le_left : ∀ a b : List Nat, common a b ≤ a.length
  | [], b => by rw [common_nil_left]; simp
  | x :: a, [] => by rw [common_nil_right]; omega
  | x :: a, y :: b => by
    rw [common_cons]
    have := common_le_left a b
    split <;> simp <;> omega
theorem common_le_right (a b : List Nat) : common a b ≤ b.length := by rw [common_comm]; exact common_le_left b a
/-- both begin with the same m bytes, if m is no more than what they have in common -/
theorem take_eq_iff : ∀ (m : Nat) (a b : List Nat), m ≤ a.length → m ≤ b.length → (a.take m = b.take m ↔ m ≤ common a b)
  | 0, _, _, _, _ => by simp
  | m + 1, [], _, h, _ => by simp at h
  | m + 1, _ :: _, [], _, h => by simp at h
  | m + 1, x :: a, y :: b, h1, h2 => by
    have ih := take_eq_iff m a b (by simpa using h1) (by simpa using h2)
    rw [common_cons]
    by_cases h : x = y
    · subst h; simp [ih]
    · simp [h]
theorem take_eq_of_le {m : Nat} {a b : List Nat} (h : m ≤ common a b) : a.take m = b.take m :=
  (take_eq_iff m a b (Nat.le_trans h (common_le_left a b)) (Nat.le_trans h (common_le_right a b))).mpr h
/-- between two rows one begins with what both have in common -/
theorem common_sand : ∀ {a b c : List Nat}, be a b → be b c → common a c = min (common a b) (common b c)
  | [], b, c, _, _ => by rw [common_nil_left, common_nil_left]; omega
  | x :: a, [], c, h, _ => by
    rcases h with h | h
    · cases h
    · exact (bf_cons_nil _ _ h).elim
  | x :: a, y :: b, [], _, h => by
    rcases h with h | h
    · cases h
    · exact (bf_cons_nil _ _ h).elim
  | x :: a, y :: b, z :: c, h1, h2 => by
    have e1 : x < y ∨ (x = y ∧ be a b) := by
      rcases h1 with h | h
      · cases h; exact .inr ⟨rfl, be_refl _⟩
      · rcases (bf_cons _ _ _ _).mp h with h | h
        · exact .inl h
        · exact .inr ⟨h.1, .inr h.2⟩
    have e2 : y < z ∨ (y = z ∧ be b c) := by
      rcases h2 with h | h
      · cases h; exact .inr ⟨rfl, be_refl _⟩
      · rcases (bf_cons _ _ _ _).mp h with h | h
        · exact .inl h
        · exact .inr ⟨h.1, .inr h.2⟩
    rw [common_cons, common_cons, common_cons]
    rcases e1 with e1 | ⟨rfl, e1⟩
    · rw [if_neg (show ¬ x = y by omega)]
      rw [if_neg (show ¬ x = z by omega)]; omega
    · rcases e2 with e2 | ⟨rfl, e2⟩
      · rw [if_neg (show ¬ x = z by omega), if_neg (show ¬ x = z by omega)]; omega
      · rw [if_pos rfl, if_pos rfl, if_pos rfl, common_sand e1 e2]; omega
/-! ### by the first w bytes -/
theorem bf_take_imp : ∀ (w : Nat) {a b : List Nat}, bf (a.take w) (b.take w) → bf a b
  | 0, _, _, h => (bf_nil_nil (by simpa using h)).elim
  | w + 1, [], [], h => h
  | w + 1, [], _ :: _, _ => bf_nil_cons _ _
  | w + 1, _ :: _, [], h => by simp only [List.take_nil] at h; exact (bf_cons_nil _ _ h).elim
  | w + 1, x :: a, y :: b, h => by
    rw [List.take_succ_cons, List.take_succ_cons, bf_cons] at h
    rw [bf_cons]
    exact h.imp id (fun h => ⟨h.1, bf_take_imp w h.2⟩)
theorem be_take {a b : List Nat} (w : Nat) (h : be a b) : be (a.take w) (b.take w) := by
  rw [be_iff] at *
  exact fun h' => h (bf_take_imp w h')
/-- the first v + w bytes: the first v, then the next w -/
theorem bf_take_add : ∀ (v w : Nat) (a b : List Nat), bf (a.take (v + w)) (b.take (v + w)) ↔ bf (a.take v) (b.take v) ∨ (a.take v = b.take v ∧ bf ((a.drop v).take w) ((b.drop v).take w))
  | 0, w, a, b => by simp [bf_nil_nil]
  | v + 1, w, [], [] => by simp
  | v + 1, w, [], y :: b => by
    rw [show v + 1 + w = (v + w) + 1 by omega]
    simp [List.take_succ_cons, bf_nil_cons]
  | v + 1, w, x :: a, [] => by
    rw [show v + 1 + w = (v + w) + 1 by omega]
    simp [List.take_succ_cons, bf_cons_nil]
  | v + 1, w, x :: a, y :: b => by
    rw [show v + 1 + w = (v + w) + 1 by omega]
    simp only [List.take_succ_cons, bf_cons, List.drop_succ_cons, bf_take_add v w a b, List.cons.injEq]
    constructor
    · rintro (h | ⟨h, h' | h'⟩)
      · exact .inl (.inl h)
      · exact .inl (.inr ⟨h, h'⟩)
      · exact .inr ⟨⟨h, h'.1⟩, h'.2⟩
    · rintro ((h | h) | h)
      · exact .inl h
      · exact .inr ⟨h.1, .inl h.2⟩
      · exact .inr ⟨h.1.1, .inr ⟨h.1.2, h.2⟩⟩
theorem take_add_eq (v w : Nat) (a b : List Nat) : a.take (v + w) = b.take (v + w) ↔ a.take v = b.take v ∧ (a.drop v).take w = (b.drop v).take w := by
  rw [List.take_add, List.take_add]
  constructor
  · intro h
    have h1 := congrArg (List.take v) h
    have hv : a.take v = b.take v := by
      have ha : ∀ l : List Nat, (l.take v ++ (l.drop v).take w).take v = l.take v := fun l => by
        by_cases hl : v ≤ l.length
        · rw [List.take_append_of_le_length (by simp; omega), List.take_take, Nat.min_self]
        · have : l.drop v = [] := List.drop_eq_nil_iff.mpr (by omega)
          rw [this, List.take_nil, List.append_nil, List.take_take, Nat.min_self]
      rwa [ha, ha] at h1
    rw [hv] at h
    exact ⟨hv, List.append_cancel_left h⟩
  · rintro ⟨h1, h2⟩; rw [h1, h2]
end TE
end

section
/-! Ranks by doubled widths: the ends in order. -/
namespace TE
open Sw16
/-- o: the places below n, in the order of their keys -/
structure ByKeys (keys : List Int) (o : List Nat) : Prop where
  perm : o.Perm (List.range keys.length)
  srt : o.Pairwise (fun a b => keys.getD a 0 ≤ keys.getD b 0)
  stb : o.Pairwise (fun a b => keys.getD a 0 = keys.getD b 0 → a < b)
theorem ByKeys.length {keys o} (h : ByKeys keys o) : o.length = keys.length := by rw [h.perm.length_eq, List.length_range]
theorem ByKeys.lt {keys o} (h : ByKeys keys o) {k : Nat} (hk : k < keys.length) : o.getD k 0 < keys.length := by
  have hk' : k < o.length := by rw [h.length]; exact hk
  have : o.getD k 0 ∈ o := by rw [List.getD_eq_getElem?_getD, List.getElem?_eq_getElem hk']; simp
  exact List.mem_range.mp (h.perm.mem_iff.mp this)
theorem ByKeys.le {keys o} (h : ByKeys keys o) {a b : Nat} (hab : a ≤ b) (hb : b < keys.length) : keys.getD (o.getD a 0) 0 ≤ keys.getD (o.getD b 0) 0 := by
  rcases Nat.lt_or_eq_of_le hab with hab | rfl
  · have hb' : b < o.length := by rw [h.length]; exact hb
    have := List.pairwise_iff_getElem.mp h.srt a b (by omega) hb' hab
    simpa [List.getD_eq_getElem?_getD, List.getElem?_eq_getElem hb', List.getElem?_eq_getElem (show a < o.length by omega)] using this
  · exact Int.le_refl _
theorem ByKeys.surj {keys o} (h : ByKeys keys o) {p : Nat} (hp : p < keys.length) : ∃ k, k < keys.length ∧ o.getD k 0 = p := by
  have : p ∈ o := h.perm.mem_iff.mpr (List.mem_range.mpr hp)
  obtain ⟨k, hk, e⟩ := List.getElem_of_mem this
  exact ⟨k, by rw [← h.length]; exact hk, by rw [List.getD_eq_getElem?_getD, List.getElem?_eq_getElem hk, e]; rfl⟩
/-- the rank of the end with number k -/
def rk (keys : List Int) (o : List Nat) : Nat → Nat
  | 0 => 0
  | k + 1 => if keys.getD (o.getD (k + 1) 0) 0 ≠ keys.getD (o.getD k 0) 0 then rk keys o k + 1 else rk keys o k
theorem rk_le (keys o) : ∀ k, rk keys o k ≤ k
  | 0 => Nat.le_refl _
  | k + 1 => by have := rk_le keys o k; simp only [rk]; split <;> omega
theorem rk_mono1 (keys o) (k) : rk keys o k ≤ rk keys o (k + 1) := by simp only [rk]; split <;> omega
theorem rk_mono (keys o) {a b : Nat} (h : a ≤ b) : rk keys o a ≤ rk keys o b := by
  induction b with
  | zero => rw [Nat.le_zero.mp h]; exact Nat.le_refl _
  | succ b ih =>
    rcases Nat.lt_or_eq_of_le h with h | rfl
    · exact Nat.le_trans (ih (by omega)) (rk_mono1 keys o b)
    · exact Nat.le_refl _
theorem rk_step (keys o) : ∀ a d, rk keys o (a + d) ≤ rk keys o a + d
  | a, 0 => Nat.le_refl _
  | a, d + 1 => by
    have := rk_step keys o a d
    show rk keys o ((a + d) + 1) ≤ _
    simp only [rk]; split <;> omega
theorem rk_eq_iff {keys o} (h : ByKeys keys o) {a b : Nat} (hab : a ≤ b) (hb : b < keys.length) :
    rk keys o a = rk keys o b ↔ keys.getD (o.getD a 0) 0 = keys.getD (o.getD b 0) 0 := by
  induction b with
  | zero => rw [Nat.le_zero.mp hab]; simp
  | succ b ih =>
    rcases Nat.lt_or_eq_of_le hab with hab | rfl
    · have ih := ih (by omega) (by omega)
      have m1 := rk_mono keys o (show a ≤ b by omega)
      have l1 := h.le (show a ≤ b by omega) (by omega)
      have l2 := h.le (show b ≤ b + 1 by omega) hb
      simp only [rk]
      split
      · rename_i hne
        constructor
        · intro e; omega
        · intro e; exact (hne (by omega)).elim
      · rename_i he
        have he : keys.getD (o.getD (b + 1) 0) 0 = keys.getD (o.getD b 0) 0 := Classical.not_not.mp he
        rw [he]; exact ih
    · simp
theorem rk_lt_iff {keys o} (h : ByKeys keys o) {a b : Nat} (ha : a < keys.length) (hb : b < keys.length) :
    rk keys o a < rk keys o b ↔ keys.getD (o.getD a 0) 0 < keys.getD (o.getD b 0) 0 := by
  rcases Nat.le_total a b with hab | hab
  · have e := rk_eq_iff h hab hb
    have m := rk_mono keys o hab
    have l := h.le hab hb
    constructor
    · intro q
      have : ¬ rk keys o a = rk keys o b := by omega
      rw [e] at this; omega
    · intro q
      have : ¬ rk keys o a = rk keys o b := by rw [e]; omega
      omega
  · have m := rk_mono keys o hab
    have l := h.le hab ha
    constructor <;> intro q <;> omega
/-- R: the ranks, by place -/
structure Ranked (keys : List Int) (o : List Nat) (R : List Nat) : Prop where
  len : R.length = keys.length
  at_ : ∀ k, k < keys.length → R.getD (o.getD k 0) 0 = rk keys o k
theorem Ranked.lt_iff {keys o R} (h : Ranked keys o R) (b : ByKeys keys o) {p q : Nat} (hp : p < keys.length) (hq : q < keys.length) :
    R.getD p 0 < R.getD q 0 ↔ keys.getD p 0 < keys.getD q 0 := by
  obtain ⟨i, hi, rfl⟩ := b.surj hp
  obtain ⟨j, hj, rfl⟩ := b.surj hq
  rw [h.at_ i hi, h.at_ j hj]
  exact rk_lt_iff b hi hj
theorem Ranked.lt {keys o R} (h : Ranked keys o R) (b : ByKeys keys o) {p : Nat} (hp : p < keys.length) : R.getD p 0 < keys.length := by
  obtain ⟨i, hi, rfl⟩ := b.surj hp
  rw [h.at_ i hi]
  exact Nat.lt_of_le_of_lt (rk_le _ _ _) hi
/-- keys tell the order by the first w bytes -/
def Tells (s : List Nat) (w : Nat) (keys : List Int) : Prop := keys.length = s.length ∧ ∀ p q, p < s.length → q < s.length → (keys.getD p 0 < keys.getD q 0 ↔ bf ((end_ s p).take w) ((end_ s q).take w))
theorem Tells.eq {s w keys} (h : Tells s w keys) {p q : Nat} (hp : p < s.length) (hq : q < s.length) : keys.getD p 0 = keys.getD q 0 ↔ (end_ s p).take w = (end_ s q).take w := by
  have h1 := h.2 p q hp hq
  have h2 := h.2 q p hq hp
  constructor
  · intro e
    rcases bf_total ((end_ s p).take w) ((end_ s q).take w) with h | h | h
    · have := h1.mpr h; omega
    · exact h
    · have := h2.mpr h; omega
  · intro e
    rw [e] at h1 h2
    have n1 : ¬ keys.getD p 0 < keys.getD q 0 := fun z => bf_irrefl _ (h1.mp z)
    have n2 : ¬ keys.getD q 0 < keys.getD p 0 := fun z => bf_irrefl _ (h2.mp z)
    omega
theorem end_take_one (s : List Nat) (p : Nat) (hp : p < s.length) : (end_ s p).take 1 = [s.getD p 0] := by
  unfold end_
  rw [List.drop_eq_getElem_cons hp, List.take_succ_cons, List.take_zero, List.getD_eq_getElem?_getD, List.getElem?_eq_getElem hp]
  rfl
def ofNats (s : List Nat) : List Int := s.map fun (x : Nat) => (x : Int)
theorem ofNats_getD (s : List Nat) (i : Nat) : (ofNats s).getD i 0 = (s.getD i 0 : Nat) := by
  unfold ofNats
  rw [List.getD_eq_getElem?_getD, List.getD_eq_getElem?_getD, List.getElem?_map]
  cases s[i]? <;> rfl
theorem ofNats_length (s : List Nat) : (ofNats s).length = s.length := List.length_map ..
theorem tells_text (s : List Nat) : Tells s 1 (ofNats s) := by
  refine ⟨ofNats_length s, fun p q hp hq => ?_⟩
  rw [end_take_one s p hp, end_take_one s q hq, bf_cons, ofNats_getD, ofNats_getD]
  constructor
  · intro h; exact .inl (by omega)
  · rintro (h | h)
    · omega
    · exact (bf_nil_nil h.2).elim
def sec (R : List Nat) (w p : Nat) : Int := if p + w < R.length then (R.getD (p + w) 0 : Int) + 1 else 0
def pairKey (R : List Nat) (w p : Nat) : Int := (R.getD p 0 : Int) * ((R.length : Int) + 1) + sec R w p
def pairKeys (R : List Nat) (w : Nat) : List Int := (List.range R.length).map (pairKey R w)
theorem pairKeys_length (R w) : (pairKeys R w).length = R.length := by unfold pairKeys; rw [List.length_map, List.length_range]
theorem pairKeys_getD {R : List Nat} {w p : Nat} (h : p < R.length) : (pairKeys R w).getD p 0 = pairKey R w p := by
  unfold pairKeys
  rw [List.getD_eq_getElem?_getD, List.getElem?_map, List.getElem?_range h]; rfl
theorem lex_lt {N a b x y : Int} (hx0 : 0 ≤ x) (hx : x < N) (hy0 : 0 ≤ y) (hy : y < N) : a * N + x < b * N + y ↔ a < b ∨ (a = b ∧ x < y) := by
  constructor
  · intro h
    rcases Int.lt_trichotomy a b with h1 | h1 | h1
    · exact .inl h1
    · subst h1; exact .inr ⟨rfl, by omega⟩
    · have : (b + 1) * N ≤ a * N := Int.mul_le_mul_of_nonneg_right (by omega) (by omega)
      rw [Int.add_mul, Int.one_mul] at this
      omega
  · rintro (h | ⟨rfl, h⟩)
    · have : (a + 1) * N ≤ b * N := Int.mul_le_mul_of_nonneg_right (by omega) (by omega)
      rw [Int.add_mul, Int.one_mul] at this
      omega
    · omega
theorem drop_end (s : List Nat) (p w : Nat) : (end_ s p).drop w = end_ s (p + w) := by unfold end_; rw [List.drop_drop]
theorem end_nil {s : List Nat} {p : Nat} (h : s.length ≤ p) : end_ s p = [] := List.drop_eq_nil_iff.mpr h
theorem end_cons {s : List Nat} {p : Nat} (h : p < s.length) : end_ s p = s.getD p 0 :: end_ s (p + 1) := by
  unfold end_
  rw [List.drop_eq_getElem_cons h, List.getD_eq_getElem?_getD, List.getElem?_eq_getElem h]; rfl
theorem end_length (s : List Nat) (p : Nat) : (end_ s p).length = s.length - p := by unfold end_; rw [List.length_drop]
/-- ranks by w bytes give keys by 2 w -/
theorem tells_pair {s : List Nat} {w : Nat} {keys : List Int} {o R : List Nat} (hw : 0 < w) (t : Tells s w keys) (b : ByKeys keys o) (r : Ranked keys o R) : Tells s (w + w) (pairKeys R w) := by
  have hl : R.length = s.length := r.len.trans t.1
  refine ⟨(pairKeys_length R w).trans hl, fun p q hp hq => ?_⟩
  have hk : keys.length = s.length := t.1
  rw [pairKeys_getD (by omega), pairKeys_getD (by omega)]
  have rlt : ∀ p, p < s.length → R.getD p 0 < s.length := fun p hp => by have := r.lt b (p := p) (by omega); omega
  have sb : ∀ p, 0 ≤ sec R w p ∧ sec R w p < (R.length : Int) + 1 := fun p => by
    unfold sec
    split
    · have := rlt (p + w) (by omega); omega
    · omega
  unfold pairKey
  rw [lex_lt (sb p).1 (sb p).2 (sb q).1 (sb q).2, bf_take_add, drop_end, drop_end]
  have rl : ∀ p q, p < s.length → q < s.length → (((R.getD p 0 : Nat) : Int) < (R.getD q 0 : Nat) ↔ bf ((end_ s p).take w) ((end_ s q).take w)) := fun p q hp hq => by
    rw [← t.2 p q hp hq, ← r.lt_iff b (by omega) (by omega)]; omega
  have re : ((R.getD p 0 : Nat) : Int) = (R.getD q 0 : Nat) ↔ (end_ s p).take w = (end_ s q).take w := by
    have h1 := rl p q hp hq
    have h2 := rl q p hq hp
    constructor
    · intro e
      rcases bf_total ((end_ s p).take w) ((end_ s q).take w) with h | h | h
      · have := h1.mpr h; omega
      · exact h
      · have := h2.mpr h; omega
    · intro e
      rw [e] at h1 h2
      have n1 : ¬ ((R.getD p 0 : Nat) : Int) < (R.getD q 0 : Nat) := fun z => bf_irrefl _ (h1.mp z)
      have n2 : ¬ ((R.getD q 0 : Nat) : Int) < (R.getD p 0 : Nat) := fun z => bf_irrefl _ (h2.mp z)
      omega
  have se : sec R w p < sec R w q ↔ bf ((end_ s (p + w)).take w) ((end_ s (q + w)).take w) := by
    unfold sec
    rw [hl]
    by_cases h1 : p + w < s.length <;> by_cases h2 : q + w < s.length
    · rw [if_pos h1, if_pos h2, ← rl _ _ h1 h2]; omega
    · rw [if_pos h1, if_neg h2, end_nil (p := q + w) (by omega), List.take_nil]
      constructor
      · intro h; omega
      · intro h
        rw [end_cons h1] at h
        obtain ⟨w, rfl⟩ : ∃ v, w = v + 1 := ⟨w - 1, by omega⟩
        exact (bf_cons_nil _ _ h).elim
    · rw [if_neg h1, if_pos h2, end_nil (p := p + w) (by omega), List.take_nil, end_cons h2]
      obtain ⟨w, rfl⟩ : ∃ v, w = v + 1 := ⟨w - 1, by omega⟩
      constructor
      · intro _; exact bf_nil_cons _ _
      · intro _; omega
    · rw [if_neg h1, if_neg h2, end_nil (p := p + w) (by omega), end_nil (p := q + w) (by omega)]
      constructor
      · intro h; omega
      · intro h; exact (bf_nil_nil (by simpa using h)).elim
  rw [← rl p q hp hq, ← re, ← se]
/-- all ranks differ: the ends are in order -/
theorem ends_of_ranks {s : List Nat} {w : Nat} {keys : List Int} {o R : List Nat} (hs : s ≠ []) (t : Tells s w keys) (b : ByKeys keys o) (r : Ranked keys o R) (h : s.length - 1 ≤ R.getD (o.getD (s.length - 1) 0) 0) : Ends s o := by
  have hk : keys.length = s.length := t.1
  have hn : 0 < s.length := List.length_pos_iff.mpr hs
  rw [r.at_ _ (by omega)] at h
  refine ⟨by rw [← hk]; exact b.perm, ?_⟩
  rw [List.pairwise_iff_getElem]
  intro i j hi hj hij
  rw [b.length, hk] at hi hj
  have e1 := rk_step keys o 0 i
  have e2 := rk_step keys o j (s.length - 1 - j)
  have e3 := rk_step keys o i (j - i)
  have e4 : rk keys o 0 = 0 := rfl
  rw [show j + (s.length - 1 - j) = s.length - 1 by omega] at e2
  rw [show 0 + i = i by omega] at e1
  have hlt : rk keys o i < rk keys o j := by omega
  rw [rk_lt_iff b (by omega) (by omega), t.2 _ _ (by have := b.lt (k := i) (by omega); omega) (by have := b.lt (k := j) (by omega); omega)] at hlt
  have := bf_take_imp w hlt
  simpa [List.getD_eq_getElem?_getD, List.getElem?_eq_getElem (show i < o.length by rw [b.length]; omega), List.getElem?_eq_getElem (show j < o.length by rw [b.length]; omega)] using this
/-- by all bytes no two keys are the same -/
theorem ranks_whole {s : List Nat} {w : Nat} {keys : List Int} {o R : List Nat} (hs : s ≠ []) (hw : s.length ≤ w) (t : Tells s w keys) (b : ByKeys keys o) (r : Ranked keys o R) : R.getD (o.getD (s.length - 1) 0) 0 = s.length - 1 := by
  have hk : keys.length = s.length := t.1
  have hn : 0 < s.length := List.length_pos_iff.mpr hs
  rw [r.at_ _ (by omega)]
  have : ∀ k, k < s.length → rk keys o k = k := by
    intro k
    induction k with
    | zero => intro _; rfl
    | succ k ih =>
      intro hk1
      have ne : ¬ keys.getD (o.getD (k + 1) 0) 0 = keys.getD (o.getD k 0) 0 := by
        have l1 := b.lt (k := k + 1) (by omega)
        have l2 := b.lt (k := k) (by omega)
        rw [t.eq (by omega) (by omega), List.take_of_length_le (by rw [end_length]; omega), List.take_of_length_le (by rw [end_length]; omega)]
        intro e
        have := congrArg List.length e
        rw [end_length, end_length] at this
        have e2 : o.getD (k + 1) 0 = o.getD k 0 := by omega
        have nd : o.Nodup := b.perm.nodup_iff.mpr List.nodup_range
        have hj : k + 1 < o.length := by rw [b.length]; omega
        have := List.pairwise_iff_getElem.mp nd k (k + 1) (by omega) hj (by omega)
        apply this
        simpa [List.getD_eq_getElem?_getD, List.getElem?_eq_getElem hj, List.getElem?_eq_getElem (show k < o.length by omega)] using e2.symm
      simp only [rk]
      rw [if_pos ne, ih (by omega)]
  exact this _ (by omega)
end TE
end

section
/-! What neighbours in order have in common. -/
namespace TE
open Sw16
/-- with how many bytes both the end with number k and the one before it begin -/
def sh (s o : List Nat) (k : Nat) : Nat := if k = 0 then 0 else common (end_ s (o.getD (k - 1) 0)) (end_ s (o.getD k 0))
theorem sh_zero (s o) : sh s o 0 = 0 := rfl
theorem sh_succ (s o k) : sh s o (k + 1) = common (end_ s (o.getD k 0)) (end_ s (o.getD (k + 1) 0)) := by
  unfold sh; rw [if_neg (by omega)]; rfl
theorem sh_pos {s o : List Nat} {k : Nat} (h : 0 < k) : sh s o k = common (end_ s (o.getD (k - 1) 0)) (end_ s (o.getD k 0)) := by
  unfold sh; rw [if_neg (by omega)]
/-- one byte more is shared just if both have it, and it is the same -/
theorem share_more {s : List Nat} {p q L : Nat} (hL : L ≤ common (end_ s p) (end_ s q)) : (max p q + L < s.length ∧ s.getD (p + L) 0 = s.getD (q + L) 0) ↔ L < common (end_ s p) (end_ s q) := by
  induction L generalizing p q with
  | zero =>
    simp only [Nat.add_zero]
    by_cases h : max p q < s.length
    · rw [end_cons (show p < s.length by omega), end_cons (show q < s.length by omega), common_cons]
      split
      · rename_i e; exact ⟨fun _ => by omega, fun _ => ⟨h, e⟩⟩
      · rename_i e; exact ⟨fun z => (e z.2).elim, fun z => by omega⟩
    · have : common (end_ s p) (end_ s q) = 0 := by
        rcases Nat.le_total p q with h1 | h1
        · rw [end_nil (p := q) (by omega), common_nil_right]
        · rw [end_nil (p := p) (by omega), common_nil_left]
      rw [this]; omega
  | succ L ih =>
    by_cases h : max p q < s.length
    · rw [end_cons (show p < s.length by omega), end_cons (show q < s.length by omega), common_cons] at hL ⊢
      split at hL
      · rename_i e
        rw [if_pos e]
        have := ih (p := p + 1) (q := q + 1) (by omega)
        rw [show p + (L + 1) = p + 1 + L by omega, show q + (L + 1) = q + 1 + L by omega, show max p q + (L + 1) = max (p + 1) (q + 1) + L by omega, this]
        omega
      · omega
    · have : common (end_ s p) (end_ s q) = 0 := by
        rcases Nat.le_total p q with h1 | h1
        · rw [end_nil (p := q) (by omega), common_nil_right]
        · rw [end_nil (p := p) (by omega), common_nil_left]
      rw [this] at hL; omega
/-- the next end shares at least one byte less with its neighbour -/
theorem kasai {s o : List Nat} (h : Ends s o) {p k k' : Nat} (hp : p + 1 < s.length) (hk : k < s.length) (ek : o.getD k 0 = p + 1) (hk' : k' < s.length) (ek' : o.getD k' 0 = p) (h0 : 0 < k') (hc : 2 ≤ sh s o k') : 0 < k ∧ sh s o k' - 1 ≤ sh s o k := by
  rw [sh_pos h0, ek'] at hc ⊢
  have bj := ends_bf h (show k' - 1 < k' by omega) hk'
  rw [ek'] at bj
  have lj := ends_lt h (show k' - 1 < s.length by omega)
  generalize hj : o.getD (k' - 1) 0 = j at *
  have e1 := end_cons lj
  have e2 := end_cons (show p < s.length by omega)
  rw [e1, e2, bf_cons] at bj
  rw [e1, e2, common_cons] at hc ⊢
  have hb : s.getD j 0 = s.getD p 0 := by
    split at hc
    · assumption
    · omega
  rw [if_pos hb] at hc ⊢
  have b1 : bf (end_ s (j + 1)) (end_ s (p + 1)) := by
    rcases bj with bj | bj
    · omega
    · exact bj.2
  have hj1 : j + 1 < s.length := by
    apply Classical.byContradiction
    intro hn
    rw [end_nil (p := j + 1) (by omega), common_nil_left] at hc
    omega
  obtain ⟨i, hi, ei⟩ := ends_surj h hj1
  rw [← ei, ← ek] at b1
  have hik := (ends_bf_iff h hi hk).mp b1
  refine ⟨by omega, ?_⟩
  rw [sh_pos (by omega), Nat.add_sub_cancel, ek]
  have b2 : be (end_ s (j + 1)) (end_ s (o.getD (k - 1) 0)) := by
    rw [← ei]
    rcases Nat.lt_or_eq_of_le (show i ≤ k - 1 by omega) with h1 | h1
    · exact .inr (ends_bf h h1 (by omega))
    · rw [h1]; exact be_refl _
  have b3 : be (end_ s (o.getD (k - 1) 0)) (end_ s (p + 1)) := by
    rw [← ek]; exact .inr (ends_bf h (by omega) hk)
  have := common_sand b2 b3
  omega
/-- two ends share what all neighbours from the one to the other share -/
theorem common_le_sh {s o : List Nat} (h : Ends s o) {a b j : Nat} (ha : a < j) (hj : j ≤ b) (hb : b < s.length) : common (end_ s (o.getD a 0)) (end_ s (o.getD b 0)) ≤ sh s o j := by
  have b1 : be (end_ s (o.getD a 0)) (end_ s (o.getD (j - 1) 0)) := by
    rcases Nat.lt_or_eq_of_le (show a ≤ j - 1 by omega) with h1 | h1
    · exact .inr (ends_bf h h1 (by omega))
    · rw [h1]; exact be_refl _
  have b2 : be (end_ s (o.getD (j - 1) 0)) (end_ s (o.getD j 0)) := .inr (ends_bf h (by omega) (by omega))
  have b3 : be (end_ s (o.getD j 0)) (end_ s (o.getD b 0)) := by
    rcases Nat.lt_or_eq_of_le hj with h1 | h1
    · exact .inr (ends_bf h h1 (by omega))
    · rw [h1]; exact be_refl _
  have e1 := common_sand b1 (be_trans b2 b3)
  have e2 := common_sand b2 b3
  rw [sh_pos (by omega)]
  omega
theorem common_is_sh {s o : List Nat} (h : Ends s o) {a b : Nat} (hab : a < b) (hb : b < s.length) : ∃ j, a < j ∧ j ≤ b ∧ common (end_ s (o.getD a 0)) (end_ s (o.getD b 0)) = sh s o j := by
  induction b with
  | zero => omega
  | succ b ih =>
    rcases Nat.lt_or_eq_of_le (show a ≤ b by omega) with h1 | rfl
    · obtain ⟨j, h2, h3, e⟩ := ih h1 (by omega)
      have := common_sand (a := end_ s (o.getD a 0)) (b := end_ s (o.getD b 0)) (c := end_ s (o.getD (b + 1) 0)) (.inr (ends_bf h h1 (by omega))) (.inr (ends_bf h (by omega) hb))
      rw [← sh_succ, e] at this
      rcases Nat.le_total (sh s o j) (sh s o (b + 1)) with h4 | h4
      · exact ⟨j, h2, by omega, by omega⟩
      · exact ⟨b + 1, by omega, by omega, by omega⟩
    · exact ⟨a + 1, by omega, by omega, (sh_succ s o a).symm⟩
theorem common_ge {s o : List Nat} (h : Ends s o) {a b m : Nat} (hab : a < b) (hb : b < s.length) : m ≤ common (end_ s (o.getD a 0)) (end_ s (o.getD b 0)) ↔ ∀ j, a < j → j ≤ b → m ≤ sh s o j := by
  constructor
  · intro hm j h1 h2
    exact Nat.le_trans hm (common_le_sh h h1 h2 hb)
  · intro hm
    obtain ⟨j, h1, h2, e⟩ := common_is_sh h hab hb
    rw [e]; exact hm j h1 h2
theorem sh_le {s o : List Nat} (k : Nat) (_hk : k < s.length) : sh s o k ≤ s.length - o.getD k 0 := by
  unfold sh
  split
  · omega
  · have := common_le_right (end_ s (o.getD (k - 1) 0)) (end_ s (o.getD k 0))
    rw [end_length] at this
    exact this
end TE
end

section
/-! find: where the bytes stand the ends are one behind another in order. -/
namespace TE
open Sw16
theorem stands_iff {s w : List Nat} {i : Nat} : stands s w i = true ↔ (end_ s i).take w.length = w := by
  unfold stands
  rw [List.isPrefixOf_iff_prefix, List.prefix_iff_eq_take]
  exact ⟨Eq.symm, Eq.symm⟩
/-- c parts the numbers below n: those below it have P, the others don't -/
structure Cut (P : Nat → Prop) (n c : Nat) : Prop where
  le : c ≤ n
  lo : ∀ k, k < c → P k
  hi : ∀ k, c ≤ k → k < n → ¬ P k
theorem less_mono {s o w : List Nat} (h : Ends s o) {j k m : Nat} (hjk : j ≤ k) (hk : k < s.length) (hb : bf ((end_ s (o.getD k 0)).take m) w) : bf ((end_ s (o.getD j 0)).take m) w := by
  rcases Nat.lt_or_eq_of_le hjk with h1 | rfl
  · exact be_bf (be_take m (.inr (ends_bf h h1 hk))) hb
  · exact hb
theorem upto_mono {s o w : List Nat} (h : Ends s o) {j k m : Nat} (hjk : j ≤ k) (hk : k < s.length) (hb : be ((end_ s (o.getD k 0)).take m) w) : be ((end_ s (o.getD j 0)).take m) w := by
  rcases Nat.lt_or_eq_of_le hjk with h1 | rfl
  · exact be_trans (be_take m (.inr (ends_bf h h1 hk))) hb
  · exact hb
def less (s o w : List Nat) (k : Nat) : Prop := bf ((end_ s (o.getD k 0)).take w.length) w
def upto (s o w : List Nat) (k : Nat) : Prop := be ((end_ s (o.getD k 0)).take w.length) w
theorem cut_stands {s o w : List Nat} {f b : Nat} (h1 : Cut (less s o w) s.length f) (h2 : Cut (upto s o w) s.length b) {k : Nat} (hk : k < s.length) : stands s w (o.getD k 0) = true ↔ f ≤ k ∧ k < b := by
  rw [stands_iff]
  constructor
  · intro e
    constructor
    · apply Nat.le_of_not_lt
      intro h
      have := h1.lo k h
      unfold less at this
      rw [e] at this
      exact bf_irrefl _ this
    · apply Nat.lt_of_not_le
      intro h
      exact h2.hi k h hk (.inl e)
  · rintro ⟨a, c⟩
    rcases h2.lo k c with e | e
    · exact e
    · exact (h1.hi k a hk e).elim
theorem cut_le {s o w : List Nat} {f b : Nat} (h1 : Cut (less s o w) s.length f) (h2 : Cut (upto s o w) s.length b) : f ≤ b := by
  apply Nat.le_of_not_lt
  intro h
  exact h2.hi b (Nat.le_refl _) (by have := h1.le; omega) (.inr (h1.lo b h))
theorem filter_range_len (n f b : Nat) (hfb : f ≤ b) (hb : b ≤ n) (q : Nat → Bool) (hq : ∀ k, k < n → (q k = true ↔ f ≤ k ∧ k < b)) : ((List.range n).filter q).length = b - f := by
  have e : (List.range n).filter q = List.range' f (b - f) := by
    refine sorted_unique (r := fun a b => a < b) (fun a => Nat.lt_irrefl a) (fun a b c => Nat.lt_trans) (List.Pairwise.filter _ List.pairwise_lt_range) List.pairwise_lt_range' fun x => ?_
    rw [List.mem_filter, List.mem_range, List.mem_range'_1]
    constructor
    · rintro ⟨a, c⟩
      have := (hq x a).mp c
      omega
    · intro a
      have : x < n := by omega
      exact ⟨this, (hq x this).mpr (by omega)⟩
  rw [e, List.length_range']
theorem map_getD_range (o : List Nat) : (List.range o.length).map (fun k => o.getD k 0) = o := by
  apply List.ext_getElem
  · simp
  · intro i h1 h2
    simp
    rw [List.getElem?_eq_getElem h2]; rfl
theorem places_len {s o w : List Nat} (h : Ends s o) {f b : Nat} (hfb : f ≤ b) (hb : b ≤ s.length) (hs : ∀ k, k < s.length → (stands s w (o.getD k 0) = true ↔ f ≤ k ∧ k < b)) : (places s w).length = b - f := by
  unfold places
  rw [← (h.1.filter (stands s w)).length_eq, ← map_getD_range o, List.filter_map, List.length_map, ends_length h]
  exact filter_range_len _ _ _ hfb hb _ fun k hk => hs k hk
theorem findIdx_at {α : Type} (p : α → Bool) : ∀ (l : List α) (f : Nat) (d : α), f < l.length → p (l.getD f d) = true → (∀ k, k < f → p (l.getD k d) = false) → l.findIdx p = f
  | [], f, d, h, _, _ => by simp at h
  | x :: l, 0, d, _, h1, _ => by
    rw [List.findIdx_cons]
    have : p x = true := h1
    rw [this]; rfl
  | x :: l, f + 1, d, h, h1, h2 => by
    have h0 : p x = false := h2 0 (by omega)
    rw [List.findIdx_cons, h0]
    show l.findIdx p + 1 = f + 1
    rw [findIdx_at p l f d (by simpa using h) (by simpa using h1) fun k hk => by simpa using h2 (k + 1) (by omega)]
/-- find's answer -/
theorem find_told {s o w : List Nat} (h : Ends s o) {f b : Nat} {len : Int} (hw : within len 1 65536 = true) (h1 : Cut (less s o w) s.length f) (h2 : Cut (upto s o w) s.length b) :
    tellsOf s (.find w len) = if f = b then says 0 else ⟨((b : Int) - f), [f, b - 1], []⟩ := by
  have hfb := cut_le h1 h2
  have hst := fun k (hk : k < s.length) => cut_stands h1 h2 (k := k) hk
  have hl := places_len h hfb h2.le hst
  unfold tellsOf
  simp only [hw, Bool.true_eq_false, if_false]
  by_cases e : f = b
  · rw [if_pos e]
    have : places s w = [] := List.length_eq_zero_iff.mp (by rw [hl]; omega)
    rw [if_pos this]
  · rw [if_neg e]
    have hp : ¬ places s w = [] := fun z => by rw [z] at hl; simp at hl; omega
    rw [if_neg hp]
    have hb := h2.le
    have hx : (endsOf s).findIdx (fun i => stands s w i) = f := by
      rw [← ends_unique h]
      refine findIdx_at _ o f 0 (by rw [ends_length h]; omega) ((hst f (by omega)).mpr ⟨Nat.le_refl _, by omega⟩) fun k hk => ?_
      have : ¬ stands s w (o.getD k 0) = true := fun z => by have := (hst k (by omega)).mp z; omega
      simpa using this
    rw [hx, hl]
    congr 2
    · omega
    · congr 1; omega
end TE
end

section
/-! The different pieces, in order. -/
namespace TE
open Sw16
theorem nodup_eraseDups {α : Type} [BEq α] [LawfulBEq α] : ∀ (m : Nat) (l : List α), l.length ≤ m → l.eraseDups.Nodup
  | _, [], _ => by simp
  | 0, _ :: _, h => by simp at h
  | m + 1, x :: l, h => by
    rw [List.eraseDups_cons, List.nodup_cons]
    refine ⟨fun hx => ?_, nodup_eraseDups m _ ?_⟩
    · rw [List.mem_eraseDups, List.mem_filter] at hx
      simp at hx
    · exact Nat.le_trans (List.length_filter_le _ _) (by simpa using h)
def allPieces (s : List Nat) : List (List Nat) := (List.range s.length).flatMap fun (i : Nat) => (List.range (s.length - i)).map fun (n : Nat) => (s.drop i).take (n + 1)
theorem mem_allPieces {s v : List Nat} : v ∈ allPieces s ↔ v ≠ [] ∧ ∃ i, i < s.length ∧ stands s v i = true := by
  unfold allPieces
  rw [List.mem_flatMap]
  constructor
  · rintro ⟨i, hi, h⟩
    rw [List.mem_range] at hi
    obtain ⟨n, hn, rfl⟩ := List.mem_map.mp h
    rw [List.mem_range] at hn
    refine ⟨fun e => ?_, i, hi, ?_⟩
    · have := congrArg List.length e
      rw [List.length_take, List.length_drop, List.length_nil] at this
      omega
    · rw [stands_iff, List.length_take, List.length_drop, Nat.min_eq_left (by omega)]; rfl
  · rintro ⟨hv, i, hi, h⟩
    rw [stands_iff] at h
    have hl : 0 < v.length := List.length_pos_iff.mpr hv
    have hl2 : v.length ≤ s.length - i := by
      have := congrArg List.length h
      rw [List.length_take, end_length] at this
      omega
    refine ⟨i, List.mem_range.mpr hi, List.mem_map.mpr ⟨v.length - 1, List.mem_range.mpr (by omega), ?_⟩⟩
    rw [show v.length - 1 + 1 = v.length by omega]; exact h
theorem piecesOf_spec (s : List Nat) : (piecesOf s).Pairwise bf ∧ ∀ v, v ∈ piecesOf s ↔ v ≠ [] ∧ ∃ i, i < s.length ∧ stands s v i = true := by
  have h := foldl_insertBy before (fun a b c h1 h2 => bf_trans h1 h2) (allPieces s).eraseDups []
    (by rw [List.append_nil]; exact nodup_eraseDups _ _ (Nat.le_refl _)) (fun a _ b _ hab => by
      rcases bf_total a b with h | h | h
      · exact .inl h
      · exact (hab h).elim
      · exact .inr h) (by simp)
  rw [List.append_nil] at h
  refine ⟨h.2, fun v => ?_⟩
  exact h.1.mem_iff.trans (List.mem_eraseDups.trans mem_allPieces)
theorem piecesOf_unique {s : List Nat} {l : List (List Nat)} (h : l.Pairwise bf) (hm : ∀ v, v ∈ l ↔ v ≠ [] ∧ ∃ i, i < s.length ∧ stands s v i = true) : l = piecesOf s :=
  sorted_unique (r := bf) bf_irrefl (fun _ _ _ => bf_trans) h (piecesOf_spec s).1 fun x => by rw [hm, (piecesOf_spec s).2]
/-- the pieces that the end with number k begins with, and none before it -/
def pcAt (s o : List Nat) (k : Nat) : List (List Nat) := (List.range (s.length - o.getD k 0 - sh s o k)).map fun j => (end_ s (o.getD k 0)).take (sh s o k + j + 1)
def pcs (s o : List Nat) : List (List Nat) := (List.range s.length).flatMap (pcAt s o)
theorem bf_take_lt {a : List Nat} {m m' : Nat} (h : m < m') (hm : m < a.length) : bf (a.take m) (a.take m') := by
  induction a generalizing m m' with
  | nil => simp at hm
  | cons x a ih =>
    obtain ⟨m', rfl⟩ : ∃ v, m' = v + 1 := ⟨m' - 1, by omega⟩
    cases m with
    | zero => exact bf_nil_cons _ _
    | succ m =>
      rw [List.take_succ_cons, List.take_succ_cons, bf_cons]
      exact .inr ⟨rfl, ih (by omega) (by simpa using hm)⟩
theorem bf_take_across : ∀ {a b : List Nat} {m m' : Nat}, bf a b → common a b < m' → bf (a.take m) (b.take m')
  | [], [], _, _, h, _ => (bf_nil_nil h).elim
  | _ :: _, [], _, _, h, _ => (bf_cons_nil _ _ h).elim
  | [], y :: b, m, m' + 1, _, _ => by rw [List.take_nil, List.take_succ_cons]; exact bf_nil_cons _ _
  | x :: a, y :: b, 0, m' + 1, _, _ => by rw [List.take_zero, List.take_succ_cons]; exact bf_nil_cons _ _
  | x :: a, y :: b, m + 1, m' + 1, h, hc => by
    rw [List.take_succ_cons, List.take_succ_cons, bf_cons]
    rw [common_cons] at hc
    rcases (bf_cons _ _ _ _).mp h with h1 | ⟨rfl, h1⟩
    · exact .inl h1
    · rw [if_pos rfl] at hc
      exact .inr ⟨rfl, bf_take_across h1 (by omega)⟩
theorem mem_pcAt {s o v : List Nat} {k : Nat} (_hk : k < s.length) : v ∈ pcAt s o k ↔ ∃ m, sh s o k < m ∧ m ≤ s.length - o.getD k 0 ∧ v = (end_ s (o.getD k 0)).take m := by
  unfold pcAt
  rw [List.mem_map]
  constructor
  · rintro ⟨j, hj, rfl⟩
    rw [List.mem_range] at hj
    exact ⟨_, by omega, by omega, rfl⟩
  · rintro ⟨m, h1, h2, rfl⟩
    exact ⟨m - sh s o k - 1, List.mem_range.mpr (by omega), by rw [show sh s o k + (m - sh s o k - 1) + 1 = m by omega]⟩
theorem pairwise_flatMap_range {α : Type} {r : α → α → Prop} (f : Nat → List α) (n : Nat) (h1 : ∀ k, k < n → (f k).Pairwise r) (h2 : ∀ i j, i < j → j < n → ∀ a ∈ f i, ∀ b ∈ f j, r a b) : ((List.range n).flatMap f).Pairwise r := by
  induction n with
  | zero => simp
  | succ n ih =>
    rw [List.range_succ, List.flatMap_append, List.pairwise_append]
    refine ⟨ih (fun k hk => h1 k (by omega)) (fun i j a b => h2 i j a (by omega)), by simpa using h1 n (by omega), ?_⟩
    intro a ha b hb
    obtain ⟨i, hi, ha⟩ := List.mem_flatMap.mp ha
    have hb : b ∈ f n := by simpa using hb
    exact h2 i n (List.mem_range.mp hi) (by omega) a ha b hb
theorem pcs_spec {s o : List Nat} (h : Ends s o) : pcs s o = piecesOf s := by
  refine piecesOf_unique (pairwise_flatMap_range _ _ (fun k hk => ?_) fun i j hij hj a ha b hb => ?_) fun v => ?_
  · unfold pcAt
    rw [List.pairwise_map]
    refine List.Pairwise.imp_of_mem ?_ List.pairwise_lt_range
    intro x y hx hy hxy
    have hx := List.mem_range.mp hx
    have hy := List.mem_range.mp hy
    exact bf_take_lt (by omega) (by rw [end_length]; omega)
  · obtain ⟨m, _, _, rfl⟩ := (mem_pcAt (by omega)).mp ha
    obtain ⟨m', h1, _, rfl⟩ := (mem_pcAt hj).mp hb
    exact bf_take_across (ends_bf h hij hj) (Nat.lt_of_le_of_lt (common_le_sh h hij (Nat.le_refl j) hj) h1)
  · unfold pcs
    rw [List.mem_flatMap]
    constructor
    · rintro ⟨k, hk, hv⟩
      have hk := List.mem_range.mp hk
      obtain ⟨m, h1, h2, rfl⟩ := (mem_pcAt hk).mp hv
      refine ⟨fun e => ?_, o.getD k 0, ends_lt h hk, ?_⟩
      · have := congrArg List.length e
        rw [List.length_take, end_length, List.length_nil] at this
        omega
      · rw [stands_iff, List.length_take, end_length, Nat.min_eq_left h2]
    · rintro ⟨hv, i, hi, hst⟩
      obtain ⟨k0, hk0, rfl⟩ := ends_surj h hi
      have hl : 0 < v.length := List.length_pos_iff.mpr hv
      -- the least number
      have : ∀ k, k < s.length → stands s v (o.getD k 0) = true → ∃ k, k < s.length ∧ stands s v (o.getD k 0) = true ∧ (k = 0 ∨ ¬ stands s v (o.getD (k - 1) 0) = true) := by
        intro k
        induction k with
        | zero => intro h1 h2; exact ⟨0, h1, h2, .inl rfl⟩
        | succ k ih =>
          intro h1 h2
          by_cases h3 : stands s v (o.getD k 0) = true
          · exact ih (by omega) h3
          · exact ⟨k + 1, h1, h2, .inr h3⟩
      obtain ⟨k, hk, h1, h2⟩ := this k0 hk0 hst
      refine ⟨k, List.mem_range.mpr hk, (mem_pcAt hk).mpr ⟨v.length, ?_, ?_, (stands_iff.mp h1).symm⟩⟩
      · apply Nat.lt_of_not_le
        intro hle
        have hk0 : 0 < k := by
          rcases Nat.eq_zero_or_pos k with e | e
          · rw [e, sh_zero] at hle; omega
          · exact e
        rcases h2 with h2 | h2
        · omega
        · rw [sh_pos hk0] at hle
          exact h2 (stands_iff.mpr ((take_eq_of_le hle).trans (stands_iff.mp h1)))
      · have := congrArg List.length (stands_iff.mp h1)
        rw [List.length_take, end_length] at this
        omega
theorem pcAt_length (s o k) : (pcAt s o k).length = s.length - o.getD k 0 - sh s o k := by unfold pcAt; rw [List.length_map, List.length_range]
/-- the first place -/
theorem firstOf_is {s w : List Nat} {m : Nat} (hm : m < s.length) (hs : stands s w m = true) (hmin : ∀ i, i < s.length → stands s w i = true → m ≤ i) : firstOf s w = m := by
  unfold firstOf
  have hmem : m ∈ places s w := List.mem_filter.mpr ⟨List.mem_range.mpr hm, hs⟩
  have hp : (places s w).Pairwise (· < ·) := List.Pairwise.filter _ List.pairwise_lt_range
  cases e : places s w with
  | nil => rw [e] at hmem; simp at hmem
  | cons x l =>
    rw [e] at hmem hp
    have hx : x ∈ places s w := by rw [e]; simp
    have hx' := List.mem_filter.mp hx
    have h1 := hmin x (List.mem_range.mp hx'.1) hx'.2
    rcases List.mem_cons.mp hmem with h | h
    · exact h.symm
    · have := (List.pairwise_cons.mp hp).1 m h
      omega
end TE
end

section
/-! The runs of ends that share a piece: by a stack. -/
namespace TE
open Sw16
/-- a run: how many bytes its ends share, the number of its first end, how many ends -/
abbrev Run := Nat × Nat × Nat
structure IsRun (g : Nat → Nat) (n : Nat) (r : Run) : Prop where
  pos : 0 < r.1
  two : 2 ≤ r.2.2
  le : r.2.1 + r.2.2 ≤ n
  all : ∀ j, r.2.1 < j → j < r.2.1 + r.2.2 → r.1 ≤ g j
  left : g r.2.1 < r.1
  right : g (r.2.1 + r.2.2) < r.1
  hit : ∃ j, r.2.1 < j ∧ j < r.2.1 + r.2.2 ∧ g j = r.1
/-- what waits: (length, first) -/
structure Waits (g : Nat → Nat) (k : Nat) (p : Nat × Nat) : Prop where
  pos : 0 < p.1
  all : ∀ j, p.2 < j → j < k → p.1 ≤ g j
  left : g p.2 < p.1
  hit : ∃ j, p.2 < j ∧ j < k ∧ g j = p.1
/-- ahead of turn k -/
structure Turn (g : Nat → Nat) (n k : Nat) (runs : List Run) (wait : List (Nat × Nat)) : Prop where
  srt : wait.Pairwise (fun a b => a.1 < b.1)
  wok : ∀ p ∈ wait, Waits g k p
  rok : ∀ r ∈ runs, IsRun g n r ∧ r.2.1 + r.2.2 < k
  cov : ∀ j, 0 < j → j < k → 0 < g j → (∃ f c, (g j, f, c) ∈ runs ∧ f < j ∧ j < f + c) ∨ ∃ f, (g j, f) ∈ wait ∧ f < j
/-- within turn k -/
structure Pops (g : Nat → Nat) (n k : Nat) (runs : List Run) (wait : List (Nat × Nat)) (first : Nat) : Prop where
  srt : wait.Pairwise (fun a b => a.1 < b.1)
  wok : ∀ p ∈ wait, Waits g k p
  rok : ∀ r ∈ runs, IsRun g n r ∧ (r.2.1 + r.2.2 < k ∨ (r.2.1 + r.2.2 = k ∧ ∀ p ∈ wait, p.1 < r.1))
  cov : ∀ j, 0 < j → j < k → 0 < g j → (∃ f c, (g j, f, c) ∈ runs ∧ f < j ∧ j < f + c) ∨ ∃ f, (g j, f) ∈ wait ∧ f < j
  flt : first < k
  fall : ∀ j, first < j → j < k → g k < g j
  fin : g k ≤ g first → 0 < g k → ∃ f, (g first, f) ∈ wait
variable {g : Nat → Nat} {n k : Nat} {runs : List Run} {wait : List (Nat × Nat)} {first : Nat}
theorem Turn.start : Turn g n 1 [] [] :=
  ⟨by simp, by simp, by simp, fun j h1 h2 => by omega⟩
theorem Turn.pops (h0 : g 0 = 0) (hk : 0 < k) (h : Turn g n k runs wait) : Pops g n k runs wait (k - 1) := by
  refine ⟨h.srt, h.wok, fun r hr => ⟨(h.rok r hr).1, .inl (h.rok r hr).2⟩, h.cov, by omega, fun j h1 h2 => by omega, fun h1 h2 => ?_⟩
  have hk1 : 0 < k - 1 := by
    rcases Nat.eq_zero_or_pos (k - 1) with e | e
    · rw [e, h0] at h1; omega
    · exact e
  rcases h.cov (k - 1) hk1 (by omega) (by omega) with ⟨f, c, hr, h3, h4⟩ | ⟨f, hf, _⟩
  · have := (h.rok _ hr).2
    simp only at this
    omega
  · exact ⟨f, hf⟩
theorem Pops.pop {l f : Nat} (h0 : g 0 = 0) (hkn : k ≤ n) (h : Pops g n k runs (wait ++ [(l, f)]) first) (hl : g k < l) : Pops g n k (runs ++ [(l, f, k - f)]) wait f := by
  have hs := List.pairwise_append.mp h.srt
  have wtop := h.wok (l, f) (by simp)
  have hall : ∀ j, f < j → j < k → l ≤ g j := wtop.all
  have hleft : g f < l := wtop.left
  have hlt : ∀ p ∈ wait, p.1 < l := fun p hp => hs.2.2 p hp (l, f) (by simp)
  obtain ⟨j0, hj1, hj2, hj3⟩ := wtop.hit
  simp only at hj1 hj3
  have hfk : f + (k - f) = k := by omega
  refine ⟨hs.1, fun p hp => h.wok p (List.mem_append_left _ hp), fun r hr => ?_, fun j h1 h2 h3 => ?_, by omega, fun j h1 h2 => by have := hall j h1 h2; omega, fun h1 h2 => ?_⟩
  · rcases List.mem_append.mp hr with hr | hr
    · obtain ⟨a, b⟩ := h.rok r hr
      exact ⟨a, b.imp id fun b => ⟨b.1, fun p hp => b.2 p (List.mem_append_left _ hp)⟩⟩
    · rw [List.mem_singleton] at hr
      subst hr
      refine ⟨⟨wtop.pos, (by show 2 ≤ k - f; omega), (by show f + (k - f) ≤ n; omega), fun j a b => ?_, hleft, ?_, j0, hj1, ?_, hj3⟩, .inr ⟨hfk, hlt⟩⟩
      · simp only at a b ⊢; exact hall j a (by omega)
      · show g (f + (k - f)) < l; rw [hfk]; exact hl
      · show j0 < f + (k - f); omega
  · rcases h.cov j h1 h2 h3 with ⟨f', c, a, b⟩ | ⟨f', a, b⟩
    · exact .inl ⟨f', c, List.mem_append_left _ a, b⟩
    · rcases List.mem_append.mp a with a | a
      · exact .inr ⟨f', a, b⟩
      · rw [List.mem_singleton] at a
        have e1 : g j = l := congrArg Prod.fst a
        have e2 : f' = f := congrArg Prod.snd a
        exact .inl ⟨f, k - f, by rw [e1]; simp, by omega, by omega⟩
  · -- the byte count ahead of f waits too
    have hf0 : 0 < f := by
      rcases Nat.eq_zero_or_pos f with e | e
      · rw [e, h0] at h1; omega
      · exact e
    rcases h.cov f hf0 (by omega) (by omega) with ⟨f', c, hr, a, b⟩ | ⟨f', a, b⟩
    · obtain ⟨x, y⟩ := h.rok _ hr
      have x1 := x.right
      simp only at x1 y
      rcases y with y | ⟨y, z⟩
      · have := hall (f' + c) (by omega) (by omega); omega
      · have := z (l, f) (by simp)
        simp only at this
        omega
    · rcases List.mem_append.mp a with a | a
      · exact ⟨f', a⟩
      · rw [List.mem_singleton] at a
        have e1 : g f = l := congrArg Prod.fst a
        omega
/-- what is left waits on; the number of this turn waits too, where none waits with as many bytes -/
theorem Pops.push (h : Pops g n k runs wait first) (hw : ∀ p ∈ wait, p.1 < g k) (hpos : 0 < g k) : Turn g n (k + 1) runs (wait ++ [(g k, first)]) := by
  refine ⟨List.pairwise_append.mpr ⟨h.srt, by simp, fun a ha b hb => ?_⟩, fun p hp => ?_, fun r hr => ?_, fun j h1 h2 h3 => ?_⟩
  · rw [List.mem_singleton] at hb; subst hb; exact hw a ha
  · rcases List.mem_append.mp hp with hp1 | hp
    · obtain ⟨a, b, c, j, d1, d2, d3⟩ := h.wok p hp1
      refine ⟨a, fun j h1 h2 => ?_, c, j, d1, by omega, d3⟩
      rcases Nat.lt_or_eq_of_le (Nat.le_of_lt_succ h2) with h3 | rfl
      · exact b j h1 h3
      · exact Nat.le_of_lt (hw p hp1)
    · rw [List.mem_singleton] at hp
      subst hp
      refine ⟨hpos, fun j h1 h2 => ?_, ?_, k, h.flt, by omega, rfl⟩
      · simp only at h1 ⊢
        rcases Nat.lt_or_eq_of_le (Nat.le_of_lt_succ h2) with h3 | rfl
        · exact Nat.le_of_lt (h.fall j h1 h3)
        · exact Nat.le_refl _
      · apply Nat.lt_of_not_le
        intro hle
        obtain ⟨f, hf⟩ := h.fin hle hpos
        have := hw _ hf
        simp only at this hle
        omega
  · obtain ⟨a, b⟩ := h.rok r hr
    exact ⟨a, by omega⟩
  · rcases Nat.lt_or_eq_of_le (Nat.le_of_lt_succ h2) with h4 | rfl
    · rcases h.cov j h1 h4 h3 with a | ⟨f, a, b⟩
      · exact .inl a
      · exact .inr ⟨f, List.mem_append_left _ a, b⟩
    · exact .inr ⟨first, by simp, h.flt⟩
theorem Pops.stay (h : Pops g n k runs wait first) (hw : ∀ p ∈ wait, p.1 ≤ g k) (hk : g k = 0 ∨ ∃ f, (g k, f) ∈ wait) : Turn g n (k + 1) runs wait := by
  refine ⟨h.srt, fun p hp => ?_, fun r hr => ?_, fun j h1 h2 h3 => ?_⟩
  · obtain ⟨a, b, c, j, d1, d2, d3⟩ := h.wok p hp
    refine ⟨a, fun j h1 h2 => ?_, c, j, d1, by omega, d3⟩
    rcases Nat.lt_or_eq_of_le (Nat.le_of_lt_succ h2) with h3 | rfl
    · exact b j h1 h3
    · exact hw p hp
  · obtain ⟨a, b⟩ := h.rok r hr
    exact ⟨a, by omega⟩
  · rcases Nat.lt_or_eq_of_le (Nat.le_of_lt_succ h2) with h4 | rfl
    · exact h.cov j h1 h4 h3
    · rcases hk with hk | ⟨f, hf⟩
      · omega
      · obtain ⟨_, _, _, j', d1, d2, _⟩ := h.wok _ hf
        exact .inr ⟨f, hf, by simp only at d1; omega⟩
/-- all runs -/
structure Runs (g : Nat → Nat) (n : Nat) (runs : List Run) : Prop where
  ok : ∀ r ∈ runs, IsRun g n r
  cov : ∀ j, 0 < j → j < n → 0 < g j → ∃ f c, (g j, f, c) ∈ runs ∧ f < j ∧ j < f + c
theorem Turn.done (hn : g n = 0) (h : Turn g n (n + 1) runs wait) : Runs g n runs := by
  refine ⟨fun r hr => (h.rok r hr).1, fun j h1 h2 h3 => ?_⟩
  rcases h.cov j h1 (by omega) h3 with a | ⟨f, a, b⟩
  · exact a
  · have := (h.wok _ a).all n (by show f < n; omega) (by omega)
    have := (h.wok _ a).pos
    omega

/-! ### the best run of as many ends or more -/
def better (r t : Run) : Run := if t.1 > r.1 then t else if t.1 = r.1 ∧ t.2.1 < r.2.1 then t else r
structure Best (C : Run → Prop) (b : Run) : Prop where
  in_ : b = (0, 0, 0) ∨ C b
  top : ∀ r, C r → r.1 ≤ b.1 ∧ (r.1 = b.1 → b.2.1 ≤ r.2.1)
theorem better_cases (r t : Run) : (better r t = r ∨ better r t = t) ∧ (r.1 ≤ (better r t).1 ∧ (r.1 = (better r t).1 → (better r t).2.1 ≤ r.2.1)) ∧ (t.1 ≤ (better r t).1 ∧ (t.1 = (better r t).1 → (better r t).2.1 ≤ t.2.1)) := by
  unfold better
  split
  · exact ⟨.inr rfl, by omega, by omega⟩
  · split
    · exact ⟨.inr rfl, by omega, by omega⟩
    · exact ⟨.inl rfl, by omega, by omega⟩
theorem Best.join {C D : Run → Prop} {b d : Run} (h : Best C b) (h' : Best D d) : Best (fun r => C r ∨ D r) (better b d) := by
  obtain ⟨h1, h2, h3⟩ := better_cases b d
  refine ⟨?_, fun r hr => ?_⟩
  · rcases h1 with e | e <;> rw [e]
    · exact h.in_.imp id .inl
    · exact h'.in_.imp id .inr
  · rcases hr with hr | hr
    · have := h.top r hr; omega
    · have := h'.top r hr; omega
theorem Best.none : Best (fun _ => False) (0, 0, 0) := ⟨.inl rfl, fun _ h => h.elim⟩
theorem Best.one {r : Run} : Best (fun t => t = r) r := ⟨.inr rfl, fun t h => by subst h; omega⟩
theorem Best.iff {C D : Run → Prop} {b : Run} (h : Best C b) (e : ∀ r, C r ↔ D r) : Best D b := ⟨h.in_.imp id (e b).mp, fun r hr => h.top r ((e r).mpr hr)⟩
end TE
end

section
/-! twice: the longest piece that comes so often. -/
namespace TE
open Sw16
theorem le_foldl_max : ∀ (l : List Nat) (a : Nat), a ≤ l.foldl max a ∧ ∀ x ∈ l, x ≤ l.foldl max a
  | [], a => ⟨Nat.le_refl _, by simp⟩
  | y :: l, a => by
    have := le_foldl_max l (max a y)
    rw [List.foldl_cons]
    refine ⟨by omega, fun x hx => ?_⟩
    rcases List.mem_cons.mp hx with rfl | hx
    · omega
    · exact this.2 x hx
theorem foldl_max_le : ∀ (l : List Nat) (a m : Nat), a ≤ m → (∀ x ∈ l, x ≤ m) → l.foldl max a ≤ m
  | [], a, m, h, _ => h
  | y :: l, a, m, h, hl => by
    rw [List.foldl_cons]
    exact foldl_max_le l _ m (by have := hl y (by simp); omega) fun x hx => hl x (by simp [hx])
theorem find_first {α : Type} {r : α → α → Prop} (has : ∀ a b, r a b → ¬ r b a) (q : α → Bool) : ∀ {l : List α} {w : α}, l.Pairwise r → w ∈ l → q w = true → (∀ v ∈ l, q v = true → v = w ∨ r w v) → l.find? q = some w
  | [], w, _, h, _, _ => by simp at h
  | x :: l, w, hp, h, hq, hf => by
    rw [List.pairwise_cons] at hp
    by_cases hx : q x = true
    · rw [List.find?_cons_of_pos hx]
      rcases hf x (by simp) hx with e | e
      · rw [e]
      · rcases List.mem_cons.mp h with e' | e'
        · rw [e']
        · exact (has _ _ e (hp.1 w e')).elim
    · rw [List.find?_cons_of_neg hx]
      rcases List.mem_cons.mp h with e' | e'
      · rw [e'] at hq; exact (hx hq).elim
      · exact find_first has q hp.2 e' hq fun v hv => hf v (by simp [hv])
theorem twice_some {s w : List Nat} {t : Nat} (hw : w ∈ piecesOf s) (ht : t ≤ (places s w).length) (hmax : ∀ v ∈ piecesOf s, t ≤ (places s v).length → v.length ≤ w.length ∧ (v.length = w.length → v = w ∨ bf w v)) :
    twiceOf s t = some (w.length, firstOf s w) := by
  unfold twiceOf
  have hmem : w ∈ (piecesOf s).filter fun (w : Text) => decide (t ≤ (places s w).length) := List.mem_filter.mpr ⟨hw, by simpa using ht⟩
  have hp : ((piecesOf s).filter fun (w : Text) => decide (t ≤ (places s w).length)).Pairwise bf := List.Pairwise.filter _ (piecesOf_spec s).1
  have hall : ∀ v ∈ (piecesOf s).filter fun (w : Text) => decide (t ≤ (places s w).length), v.length ≤ w.length ∧ (v.length = w.length → v = w ∨ bf w v) := fun v hv => by
    have := List.mem_filter.mp hv
    exact hmax v this.1 (by simpa using this.2)
  generalize (piecesOf s).filter (fun (w : Text) => decide (t ≤ (places s w).length)) = l at *
  cases l with
  | nil => simp at hmem
  | cons x l =>
    have e : ((x :: l).map List.length).foldl max 0 = w.length := by
      apply Nat.le_antisymm
      · refine foldl_max_le _ _ _ (Nat.zero_le _) fun y hy => ?_
        obtain ⟨v, hv, rfl⟩ := List.mem_map.mp hy
        exact (hall v hv).1
      · exact (le_foldl_max _ 0).2 _ (List.mem_map.mpr ⟨w, hmem, rfl⟩)
    have e2 : (x :: l).find? (fun (w' : Text) => w'.length == w.length) = some w :=
      find_first (r := bf) (fun a b => bf_asymm) _ hp hmem (by simp) fun v hv hq => (hall v hv).2 (by simpa using hq)
    show (match (x :: l).find? (fun (w' : Text) => w'.length == ((x :: l).map List.length).foldl max 0) with
      | some w => some (((x :: l).map List.length).foldl max 0, firstOf s w)
      | none => none) = _
    rw [e, e2]
theorem twice_none {s : List Nat} {t : Nat} (h : ∀ v ∈ piecesOf s, ¬ t ≤ (places s v).length) : twiceOf s t = none := by
  unfold twiceOf
  have : (piecesOf s).filter (fun (w : Text) => decide (t ≤ (places s w).length)) = [] := by
    rw [List.filter_eq_nil_iff]
    intro v hv
    simpa using h v hv
  rw [this]
/-- what neighbours share, 0 behind the last -/
def gs (s o : List Nat) (j : Nat) : Nat := if j < s.length then sh s o j else 0
theorem gs_zero (s o) : gs s o 0 = 0 := by unfold gs; rw [sh_zero]; split <;> rfl
theorem gs_last (s o) : gs s o s.length = 0 := by unfold gs; rw [if_neg (by omega)]
theorem gs_lt {s o : List Nat} {j : Nat} (h : j < s.length) : gs s o j = sh s o j := by unfold gs; rw [if_pos h]
theorem exists_cut {P : Nat → Prop} : ∀ {n : Nat}, (∀ j k, j ≤ k → k < n → P k → P j) → ∃ c, Cut P n c
  | 0, _ => ⟨0, Nat.le_refl _, fun k h => by omega, fun k _ h => by omega⟩
  | n + 1, h => by
    by_cases hn : P n
    · exact ⟨n + 1, Nat.le_refl _, fun k hk => h k n (by omega) (by omega) hn, fun k h1 h2 => by omega⟩
    · obtain ⟨c, h1, h2, h3⟩ := exists_cut (P := P) (n := n) fun j k a b => h j k a (by omega)
      refine ⟨c, by omega, h2, fun k a b => ?_⟩
      rcases Nat.lt_or_eq_of_le (Nat.le_of_lt_succ b) with h4 | rfl
      · exact h3 k a h4
      · exact hn
/-- the numbers of the ends that begin with w -/
theorem exists_span {s o : List Nat} (h : Ends s o) (w : List Nat) : ∃ f b, f ≤ b ∧ b ≤ s.length ∧ (∀ k, k < s.length → (stands s w (o.getD k 0) = true ↔ f ≤ k ∧ k < b)) ∧ (places s w).length = b - f := by
  obtain ⟨f, h1⟩ := exists_cut (P := less s o w) (n := s.length) fun j k a b c => less_mono h a b c
  obtain ⟨b, h2⟩ := exists_cut (P := upto s o w) (n := s.length) fun j k a b c => upto_mono h a b c
  have hfb := cut_le h1 h2
  exact ⟨f, b, hfb, h2.le, fun k hk => cut_stands h1 h2 hk, places_len h hfb h2.le fun k hk => cut_stands h1 h2 hk⟩
/-- a run's piece comes just at its ends' places -/
theorem run_stands {s o : List Nat} (h : Ends s o) {L f c : Nat} (hr : IsRun (gs s o) s.length (L, f, c)) {k : Nat} (hk : k < s.length) : stands s ((end_ s (o.getD f 0)).take L) (o.getD k 0) = true ↔ f ≤ k ∧ k < f + c := by
  obtain ⟨h1, h2, h3, h4, h5, h6, -⟩ := hr
  simp only at h1 h2 h3 h4 h5 h6
  have hL : L ≤ s.length - o.getD f 0 := by
    have q := h4 (f + 1) (by omega) (by omega)
    rw [gs_lt (by omega), sh_succ] at q
    have := common_le_left (end_ s (o.getD f 0)) (end_ s (o.getD (f + 1) 0))
    rw [end_length] at this
    omega
  have hlen : ((end_ s (o.getD f 0)).take L).length = L := by rw [List.length_take, end_length]; omega
  rw [stands_iff, hlen]
  have key : (end_ s (o.getD k 0)).take L = (end_ s (o.getD f 0)).take L ↔ k = f ∨ L ≤ common (end_ s (o.getD k 0)) (end_ s (o.getD f 0)) := by
    constructor
    · intro e
      right
      refine (take_eq_iff L _ _ ?_ (by rw [end_length]; exact hL)).mp e
      have := congrArg List.length e
      rw [hlen, List.length_take] at this
      omega
    · rintro (rfl | e)
      · rfl
      · exact take_eq_of_le e
  rw [key]
  rcases Nat.lt_trichotomy k f with hlt | rfl | hgt
  · constructor
    · rintro (e | e)
      · omega
      · have := common_le_sh h hlt (Nat.le_refl f) (by omega)
        rw [gs_lt (by omega)] at h5
        omega
    · omega
  · exact ⟨fun _ => by omega, fun _ => .inl rfl⟩
  · rw [common_comm, common_ge h hgt hk]
    constructor
    · rintro (e | e)
      · omega
      · refine ⟨by omega, Nat.lt_of_not_le fun hle => ?_⟩
        have := e (f + c) (by omega) hle
        rw [gs_lt (by omega)] at h6
        omega
    · rintro ⟨_, e⟩
      refine .inr fun j a b => ?_
      have := h4 j a (by omega)
      rw [gs_lt (by omega)] at this
      exact this
theorem run_piece {s o : List Nat} (h : Ends s o) {L f c : Nat} (hr : IsRun (gs s o) s.length (L, f, c)) : (end_ s (o.getD f 0)).take L ∈ piecesOf s ∧ ((end_ s (o.getD f 0)).take L).length = L ∧ (places s ((end_ s (o.getD f 0)).take L)).length = c := by
  have h1 := hr.pos; have h2 := hr.two; have h3 := hr.le; have h4 := hr.all
  simp only at h1 h2 h3 h4
  have hL : L ≤ s.length - o.getD f 0 := by
    have q := h4 (f + 1) (by omega) (by omega)
    rw [gs_lt (by omega), sh_succ] at q
    have := common_le_left (end_ s (o.getD f 0)) (end_ s (o.getD (f + 1) 0))
    rw [end_length] at this
    omega
  have hlen : ((end_ s (o.getD f 0)).take L).length = L := by rw [List.length_take, end_length]; omega
  refine ⟨((piecesOf_spec s).2 _).mpr ⟨fun e => ?_, o.getD f 0, ends_lt h (by omega), (run_stands h hr (by omega)).mpr ⟨Nat.le_refl _, by omega⟩⟩, hlen, ?_⟩
  · rw [e] at hlen; simp at hlen; omega
  · have := places_len h (f := f) (b := f + c) (by omega) h3 fun k hk => run_stands h hr hk
    rw [this]; omega
/-- a piece that comes at two places or more lies within a run -/
theorem piece_run {s o : List Nat} (h : Ends s o) {runs : List Run} (hr : Runs (gs s o) s.length runs) {v : List Nat} (hv : v ∈ piecesOf s) (h2 : 2 ≤ (places s v).length) :
    ∃ L f c, (L, f, c) ∈ runs ∧ v.length ≤ L ∧ (places s v).length ≤ c ∧ (v.length = L → v = (end_ s (o.getD f 0)).take L) := by
  obtain ⟨x, y, hxy, hy, hst, hlen⟩ := exists_span h v
  have hv0 := ((piecesOf_spec s).2 v).mp hv
  have hvl : 0 < v.length := List.length_pos_iff.mpr hv0.1
  have sx := stands_iff.mp ((hst x (by omega)).mpr ⟨Nat.le_refl _, by omega⟩)
  have sy := stands_iff.mp ((hst (y - 1) (by omega)).mpr ⟨by omega, by omega⟩)
  have lx : v.length ≤ (end_ s (o.getD x 0)).length := by
    have := congrArg List.length sx; rw [List.length_take] at this; omega
  have ly : v.length ≤ (end_ s (o.getD (y - 1) 0)).length := by
    have := congrArg List.length sy; rw [List.length_take] at this; omega
  have hc : v.length ≤ common (end_ s (o.getD x 0)) (end_ s (o.getD (y - 1) 0)) := (take_eq_iff _ _ _ lx ly).mp (sx.trans sy.symm)
  obtain ⟨j, hj1, hj2, ej⟩ := common_is_sh h (show x < y - 1 by omega) (by omega)
  have hge := (common_ge h (show x < y - 1 by omega) (show y - 1 < s.length by omega) (m := common (end_ s (o.getD x 0)) (end_ s (o.getD (y - 1) 0)))).mp (Nat.le_refl _)
  have egj : gs s o j = common (end_ s (o.getD x 0)) (end_ s (o.getD (y - 1) 0)) := by rw [gs_lt (by omega), ej]
  obtain ⟨f, c, hm, hf1, hf2⟩ := hr.cov j (by omega) (by omega) (by rw [egj]; omega)
  have hrun := hr.ok _ hm
  rw [egj] at hm hrun
  have hfx : f ≤ x := by
    apply Nat.le_of_not_lt
    intro hlt
    have a := hrun.left
    have b := hge f hlt (by omega)
    have e := hrun.le
    simp only at a e
    rw [gs_lt (by omega)] at a
    omega
  have hyc : y ≤ f + c := by
    apply Nat.le_of_not_lt
    intro hlt
    have a := hrun.right
    have b := hge (f + c) (by omega) (by omega)
    simp only at a
    rw [gs_lt (by omega)] at a
    omega
  refine ⟨_, f, c, hm, hc, by omega, fun e => ?_⟩
  have q := (run_stands h hrun (k := x) (by omega)).mpr ⟨hfx, by omega⟩
  have lq := (run_piece h hrun).2.1
  rw [stands_iff, lq, ← e, sx] at q
  rw [← e]
  exact q
theorem run_order {s o : List Nat} (h : Ends s o) {L f c f' c' : Nat} (hr : IsRun (gs s o) s.length (L, f, c)) (hr' : IsRun (gs s o) s.length (L, f', c')) (hle : f ≤ f') : (end_ s (o.getD f' 0)).take L = (end_ s (o.getD f 0)).take L ∨ bf ((end_ s (o.getD f 0)).take L) ((end_ s (o.getD f' 0)).take L) := by
  have := hr'.le; have := hr'.two
  simp only at *
  rcases Nat.lt_or_eq_of_le hle with h1 | rfl
  · exact (be_take L (.inr (ends_bf h h1 (by omega)))).imp Eq.symm id
  · exact .inl rfl
/-- twice's answer by the best run -/
theorem twice_best {s o : List Nat} (h : Ends s o) {runs : List Run} (hr : Runs (gs s o) s.length runs) {t : Nat} (ht : 2 ≤ t) {b : Run} (hb : Best (fun r => r ∈ runs ∧ t ≤ r.2.2) b) :
    twiceOf s t = if b.1 = 0 then none else some (b.1, firstOf s ((end_ s (o.getD b.2.1 0)).take b.1)) := by
  obtain ⟨L, f, c⟩ := b
  by_cases h0 : L = 0
  · subst h0
    rw [if_pos rfl]
    refine twice_none fun v hv hle => ?_
    obtain ⟨L, f', c', hm, h1, h2, _⟩ := piece_run h hr hv (by omega)
    have := (hb.top _ ⟨hm, by show t ≤ c'; omega⟩).1
    have := (hr.ok _ hm).pos
    simp only at *
    omega
  · rw [if_neg h0]
    have hin : (L, f, c) ∈ runs ∧ t ≤ c := by
      rcases hb.in_ with e | e
      · cases e; exact (h0 rfl).elim
      · exact e
    have hrun := hr.ok _ hin.1
    obtain ⟨p1, p2, p3⟩ := run_piece h hrun
    have := twice_some (s := s) (t := t) p1 (by rw [p3]; exact hin.2) fun v hv hle => by
      obtain ⟨L', f', c', hm, h1, h2, h3⟩ := piece_run h hr hv (by omega)
      have ht' := hb.top _ ⟨hm, by show t ≤ c'; omega⟩
      simp only at ht'
      rw [p2]
      refine ⟨by omega, fun e => ?_⟩
      have e' : L' = L := by omega
      subst e'
      rw [h3 e]
      exact run_order h hrun (hr.ok _ hm) (ht'.2 rfl)
    rw [this, p2]
/-- the first place of a run's piece -/
theorem run_first {s o : List Nat} (h : Ends s o) {L f c m : Nat} (hr : IsRun (gs s o) s.length (L, f, c)) (hm : ∃ k, f ≤ k ∧ k < f + c ∧ o.getD k 0 = m) (hmin : ∀ k, f ≤ k → k < f + c → m ≤ o.getD k 0) : firstOf s ((end_ s (o.getD f 0)).take L) = m := by
  obtain ⟨k, h1, h2, rfl⟩ := hm
  have hle := hr.le
  simp only at hle
  refine firstOf_is (ends_lt h (by omega)) ((run_stands h hr (by omega)).mpr ⟨h1, h2⟩) fun i hi hs => ?_
  obtain ⟨k', hk', rfl⟩ := ends_surj h hi
  have := (run_stands h hr hk').mp hs
  exact hmin k' this.1 this.2
end TE
end

section
/-! The text turned, and got back: the walk by leadsTo. -/
namespace TE
open Sw16
/-! ### a map that goes up -/
theorem up_ge {g : Nat → Nat} {n : Nat} (h : ∀ i j, i < j → j < n → g i < g j) : ∀ k, k < n → k ≤ g k
  | 0, _ => Nat.zero_le _
  | k + 1, hk => by
    have h1 := up_ge h k (by omega)
    have h2 := h k (k + 1) (by omega) hk
    omega
theorem up_le {g : Nat → Nat} {n : Nat} (h : ∀ i j, i < j → j < n → g i < g j) (hl : ∀ k, k < n → g k < n) : ∀ d k, k + d + 1 = n → g k ≤ k
  | 0, k, e => by have := hl k (by omega); omega
  | d + 1, k, e => by
    have h1 := up_le h hl d (k + 1) (by omega)
    have h2 := h k (k + 1) (by omega) (by omega)
    omega
theorem up_id {g : Nat → Nat} {n : Nat} (h : ∀ i j, i < j → j < n → g i < g j) (hl : ∀ k, k < n → g k < n) {k : Nat} (hk : k < n) : g k = k :=
  Nat.le_antisymm (up_le h hl (n - 1 - k) k (by omega)) (up_ge h k hk)
/-! ### the order of the bytes before -/
def lx (b : List Nat) (i j : Nat) : Prop := b.getD i 0 < b.getD j 0 ∨ (b.getD i 0 = b.getD j 0 ∧ i < j)
theorem lx_total (b : List Nat) {i j : Nat} (h : i ≠ j) : lx b i j ∨ lx b j i := by
  unfold lx
  omega
structure Lead (b : List Nat) (L : Nat → Nat) : Prop where
  lt : ∀ i, i < b.length → L i < b.length
  up : ∀ i j, i < b.length → j < b.length → lx b i j → L i < L j
theorem Lead.inj {b L} (h : Lead b L) {i j : Nat} (hi : i < b.length) (hj : j < b.length) (e : L i = L j) : i = j := by
  by_cases z : i = j
  · exact z
  · rcases lx_total b z with q | q
    · have := h.up i j hi hj q; omega
    · have := h.up j i hj hi q; omega
/-- the places in the order of the bytes, equal ones as they stand -/
structure Rows (b P : List Nat) : Prop where
  perm : P.Perm (List.range b.length)
  srt : P.Pairwise (lx b)
theorem Lead.at_ {b L P} (h : Lead b L) (r : Rows b P) {k : Nat} (hk : k < b.length) : L (P.getD k 0) = k := by
  have hl : P.length = b.length := by rw [r.perm.length_eq, List.length_range]
  refine up_id (g := fun k => L (P.getD k 0)) (n := b.length) (fun i j hij hj => ?_) (fun k hk => h.lt _ (perm_lt r.perm hk)) hk
  refine h.up _ _ (perm_lt r.perm (by omega)) (perm_lt r.perm hj) ?_
  have := List.pairwise_iff_getElem.mp r.srt i j (by omega) (by omega) hij
  rw [List.getD_eq_getElem?_getD, List.getD_eq_getElem?_getD, List.getElem?_eq_getElem (by omega), List.getElem?_eq_getElem (by omega)]
  exact this
theorem Lead.eq {b L M P} (h : Lead b L) (h' : Lead b M) (r : Rows b P) {i : Nat} (hi : i < b.length) : L i = M i := by
  obtain ⟨k, hk, rfl⟩ := perm_surj r.perm hi
  rw [h.at_ r hk, h'.at_ r hk]
/-! ### leadsTo -/
theorem cnt_le (c : Nat) : ∀ l : List Nat, l.countP (fun x => decide (x < c)) + l.countP (fun x => x == c) ≤ l.length
  | [] => by simp
  | x :: l => by
    have := cnt_le c l
    rw [List.countP_cons, List.countP_cons, List.length_cons]
    by_cases h1 : x < c
    · have : x ≠ c := by omega
      simp [h1, this]; omega
    · by_cases h2 : x = c
      · simp [h2]; omega
      · simp [h1, h2]; omega
theorem cnt_lt {c d : Nat} (h : c < d) : ∀ l : List Nat, l.countP (fun x => decide (x < c)) + l.countP (fun x => x == c) ≤ l.countP (fun x => decide (x < d))
  | [] => by simp
  | x :: l => by
    have := cnt_lt h l
    rw [List.countP_cons, List.countP_cons, List.countP_cons]
    by_cases h1 : x < c
    · have h2 : x ≠ c := by omega
      have h3 : x < d := by omega
      simp [h1, h2, h3]; omega
    · by_cases h2 : x = c
      · have h3 : x < d := by omega
        subst h2
        simp [h3]; omega
      · simp [h1, h2]; omega
theorem leads_cnt (b : List Nat) (i : Nat) : leadsTo b i = b.countP (fun x => decide (x < b.getD i 0)) + (b.take i).countP (fun x => x == b.getD i 0) := by
  unfold leadsTo
  rw [List.countP_eq_length_filter, List.countP_eq_length_filter]
theorem split_at {b : List Nat} {i : Nat} (h : i < b.length) : b = b.take i ++ b.getD i 0 :: b.drop (i + 1) := by
  have : b.drop i = b.getD i 0 :: b.drop (i + 1) := by
    rw [List.drop_eq_getElem_cons h, List.getD_eq_getElem?_getD, List.getElem?_eq_getElem h]; rfl
  rw [← this, List.take_append_drop]
theorem leads_lead (b : List Nat) : Lead b (leadsTo b) := by
  refine ⟨fun i hi => ?_, fun i j hi hj h => ?_⟩
  · rw [leads_cnt]
    have e := split_at hi
    generalize hc : b.getD i 0 = c at e
    have h1 := cnt_le c (b.take i)
    have h2 := cnt_le c (b.drop (i + 1))
    have h3 : b.countP (fun x => decide (x < c)) = (b.take i).countP (fun x => decide (x < c)) + (b.drop (i + 1)).countP (fun x => decide (x < c)) := by
      conv => lhs; rw [e]
      rw [List.countP_append, List.countP_cons]
      simp
    have h4 : b.length = (b.take i).length + 1 + (b.drop (i + 1)).length := by
      conv => lhs; rw [e]
      rw [List.length_append, List.length_cons]; omega
    omega
  · rw [leads_cnt, leads_cnt]
    have e := split_at hi
    rcases h with h | ⟨h, hij⟩
    · generalize hd : b.getD j 0 = d at h
      generalize hc : b.getD i 0 = c at h e
      have h1 := cnt_lt h b
      have h2 : b.countP (fun x => x == c) = (b.take i).countP (fun x => x == c) + (b.drop (i + 1)).countP (fun x => x == c) + 1 := by
        conv => lhs; rw [e]
        rw [List.countP_append, List.countP_cons]
        simp; omega
      omega
    · rw [← h]
      generalize hc : b.getD i 0 = c at h e
      have e2 : b.take j = b.take i ++ c :: (b.drop (i + 1)).take (j - i - 1) := by
        conv => lhs; rw [e]
        rw [List.take_append, List.take_of_length_le (by rw [List.length_take]; omega), List.length_take, Nat.min_eq_left (by omega), show j - i = (j - i - 1) + 1 by omega, List.take_succ_cons]
        rfl
      rw [e2, List.countP_append, List.countP_cons]
      simp
/-! ### the walk -/
def wk (L : Nat → Nat) : Nat → Nat
  | 0 => 0
  | k + 1 => L (wk L k)
theorem backwards_is (b : List Nat) : ∀ (k m : Nat) (r : List Nat), backwards b k (wk (leadsTo b) m) r = ((List.range k).map fun j => b.getD (wk (leadsTo b) (m + (k - 1 - j))) 0 - 1) ++ r
  | 0, m, r => by simp [backwards]
  | k + 1, m, r => by
    show backwards b k (wk (leadsTo b) (m + 1)) _ = _
    rw [backwards_is b k (m + 1), List.range_succ, List.map_append, List.append_assoc]
    congr 1
    · refine List.map_congr_left fun j hj => ?_
      rw [List.mem_range] at hj
      rw [show m + 1 + (k - 1 - j) = m + (k + 1 - 1 - j) by omega]
    · simp
theorem backwards_len (b : List Nat) (n : Nat) : (backwards b n 0 []).length = n := by
  have := backwards_is b n 0 []
  rw [show wk (leadsTo b) 0 = 0 from rfl] at this
  rw [this]; simp
theorem backwards_at (b : List Nat) (n : Nat) {i : Nat} (h : i < n) : (backwards b n 0 []).getD i 0 = b.getD (wk (leadsTo b) (n - 1 - i)) 0 - 1 := by
  have := backwards_is b n 0 []
  rw [show wk (leadsTo b) 0 = 0 from rfl] at this
  rw [this, List.append_nil, List.getD_eq_getElem?_getD, List.getElem?_map, List.getElem?_range h]
  simp
/-! ### the column -/
theorem column_len (t : List Nat) (f : Nat) : (column t f).length = t.length + 1 := by unfold column; simp
theorem column_zero (t : List Nat) (f : Nat) : (column t f).getD 0 0 = t.getD f 0 + 1 := rfl
theorem column_succ {t : List Nat} (f : Nat) {k : Nat} (h : k < t.length) : (column t f).getD (k + 1) 0 = if k = f then 0 else t.getD k 0 + 1 := by
  unfold column
  rw [List.getD_cons_succ, List.getD_eq_getElem?_getD, List.getElem?_map, List.getElem?_zipIdx, List.getElem?_eq_getElem h, List.getD_eq_getElem?_getD, List.getElem?_eq_getElem h]
  simp
theorem column_none {t : List Nat} {f x : Nat} (_hf : f < t.length) (hx : x < t.length + 1) : (column t f).getD x 0 = 0 ↔ x = f + 1 := by
  cases x with
  | zero => rw [column_zero]; omega
  | succ k =>
    rw [column_succ f (by omega)]
    split
    · omega
    · omega
section
variable {t : List Nat} {f : Nat} {L : Nat → Nat}
theorem lead_none (hf : f < t.length) (hL : Lead (column t f) L) {P : List Nat} (r : Rows (column t f) P) {x : Nat} (hx : x < t.length + 1) : L x = 0 ↔ x = f + 1 := by
  have hl := column_len t f
  have h0 : L (f + 1) = 0 := by
    have hk := hL.lt (f + 1) (by omega)
    obtain ⟨y, hy, e⟩ : ∃ y, y < t.length + 1 ∧ L y = 0 := ⟨P.getD 0 0, by rw [← hl]; exact perm_lt r.perm (by omega), hL.at_ r (by omega)⟩
    by_cases z : y = f + 1
    · rw [← z]; exact e
    · exfalso
      have h1 : (column t f).getD (f + 1) 0 = 0 := (column_none hf (by omega)).mpr rfl
      have h2 : (column t f).getD y 0 ≠ 0 := fun q => z ((column_none hf hy).mp q)
      have := hL.up (f + 1) y (by omega) (by omega) (.inl (by omega))
      omega
  constructor
  · intro e
    exact hL.inj (by omega) (by omega) (by rw [e, h0])
  · rintro rfl; exact h0
theorem wk_lt (hL : Lead (column t f) L) (k : Nat) : wk L k < t.length + 1 := by
  induction k with
  | zero => show 0 < _; omega
  | succ k ih => have := hL.lt (wk L k) (by rw [column_len]; exact ih); rw [column_len] at this; exact this
theorem wk_inj (hf : f < t.length) (hL : Lead (column t f) L) {P : List Nat} (r : Rows (column t f) P) {j : Nat} (hj : ∀ m, m < j → (column t f).getD (wk L m) 0 ≠ 0) : ∀ a c, a < c → c ≤ j → wk L a ≠ wk L c
  | 0, c, hc, hcj, e => by
    obtain ⟨c, rfl⟩ : ∃ d, c = d + 1 := ⟨c - 1, by omega⟩
    have h1 : L (wk L c) = 0 := e.symm
    have h2 := (lead_none hf hL r (wk_lt hL c)).mp h1
    exact hj c (by omega) ((column_none hf (wk_lt hL c)).mpr h2)
  | a + 1, c, hc, hcj, e => by
    obtain ⟨c, rfl⟩ : ∃ d, c = d + 1 := ⟨c - 1, by omega⟩
    have e' : L (wk L a) = L (wk L c) := e
    exact wk_inj hf hL r hj a c (by omega) (by omega) (hL.inj (by rw [column_len]; exact wk_lt hL a) (by rw [column_len]; exact wk_lt hL c) e')
theorem inj_le : ∀ (j n : Nat) (g : Nat → Nat), (∀ a c, a < c → c < j → g a ≠ g c) → (∀ a, a < j → g a < n) → j ≤ n
  | 0, n, g, _, _ => Nat.zero_le _
  | j + 1, 0, g, _, h2 => by have := h2 0 (by omega); omega
  | j + 1, n + 1, g, h1, h2 => by
    -- leave out the value g j
    have := inj_le j n (fun a => if g a < g j then g a else g a - 1) (fun a c hac hc e => ?_) (fun a ha => ?_)
    · omega
    · have d1 := h1 a c hac (by omega)
      have d2 := h1 a j (by omega) (by omega)
      have d3 := h1 c j (by omega) (by omega)
      split at e <;> split at e <;> omega
    · have d1 := h1 a j (by omega) (by omega)
      have d2 := h2 a (by omega)
      have d3 := h2 j (by omega)
      show (if g a < g j then g a else g a - 1) < n
      split <;> omega
/-- as long as the walk goes on it has made no more steps than there are bytes -/
theorem wk_le (hf : f < t.length) (hL : Lead (column t f) L) {P : List Nat} (r : Rows (column t f) P) {j : Nat} (hj : ∀ m, m < j → (column t f).getD (wk L m) 0 ≠ 0) : j ≤ t.length := by
  have := inj_le (j + 1) (t.length + 1) (wk L) (fun a c h1 h2 => wk_inj hf hL r hj a c h1 (by omega)) fun a _ => wk_lt hL a
  omega
end
/-- the walk went through all: it is the text -/
theorem back_some {t P : List Nat} {f : Nat} (hf : f < t.length) (r : Rows (column t f) P) (hj : ∀ m, m < t.length → (column t f).getD (wk (leadsTo (column t f)) m) 0 ≠ 0) : backOf t f = some (backwards (column t f) t.length 0 []) := by
  have hL := leads_lead (column t f)
  have hlen := backwards_len (column t f) t.length
  have hget := fun {i : Nat} (h : i < t.length) => backwards_at (column t f) t.length h
  generalize hs : backwards (column t f) t.length 0 [] = s at hlen hget
  have hend : (column t f).getD (wk (leadsTo (column t f)) t.length) 0 = 0 := by
    by_cases z : (column t f).getD (wk (leadsTo (column t f)) t.length) 0 = 0
    · exact z
    · have := wk_le hf hL r (j := t.length + 1) fun m hm => by
        by_cases e : m = t.length
        · subst e; exact z
        · exact hj m (by omega)
      omega
  generalize hN : t.length = n at *
  -- the number in order of each end, the empty one's 0
  obtain ⟨pos, hpos⟩ : ∃ pos : Nat → Nat, ∀ i, pos i = wk (leadsTo (column t f)) (n - i) := ⟨_, fun _ => rfl⟩
  have pn : pos n = 0 := by rw [hpos, Nat.sub_self]; rfl
  have p0 : pos 0 = f + 1 := by
    rw [hpos, Nat.sub_zero]
    exact (column_none (by omega) (by have := wk_lt hL n; omega)).mp hend
  have pstep : ∀ i, i < n → pos i = leadsTo (column t f) (pos (i + 1)) := fun i hi => by
    rw [hpos, hpos, show n - i = (n - (i + 1)) + 1 by omega]; rfl
  have plt : ∀ i, pos i < n + 1 := fun i => by rw [hpos]; have := wk_lt hL (n - i); omega
  have pinj : ∀ i j, i ≤ n → j ≤ n → pos i = pos j → i = j := fun i j hi hj' e => by
    rw [hpos, hpos] at e
    rcases Nat.lt_trichotomy (n - i) (n - j) with q | q | q
    · exact (wk_inj (by omega) hL r (j := n) hj _ _ q (by omega) e).elim
    · omega
    · exact (wk_inj (by omega) hL r (j := n) hj _ _ q (by omega) e.symm).elim
  have pnz : ∀ i, i < n → (column t f).getD (pos (i + 1)) 0 ≠ 0 := fun i hi => by rw [hpos]; exact hj _ (by omega)
  have sget : ∀ i, i < n → s.getD i 0 = (column t f).getD (pos (i + 1)) 0 - 1 := fun i hi => by rw [hget hi, hpos, show n - (i + 1) = n - 1 - i by omega]
  have hcl : (column t f).length = n + 1 := by rw [column_len, hN]
  have ecs : ∀ i, i < n → end_ s i = s.getD i 0 :: end_ s (i + 1) := fun i hi => by
    unfold end_
    rw [List.drop_eq_getElem_cons (by omega), List.getD_eq_getElem?_getD, List.getElem?_eq_getElem (by omega)]; rfl
  have ord : ∀ m i j, n - i = m → i ≤ n → j ≤ n → pos i < pos j → bf (end_ s i) (end_ s j) := by
    intro m
    induction m with
    | zero =>
      intro i j e hi hj' hp
      have : i = n := by omega
      subst this
      have hj2 : j < i := by
        rcases Nat.lt_or_eq_of_le hj' with q | q
        · exact q
        · rw [q] at hp; omega
      rw [show end_ s i = [] from List.drop_eq_nil_of_le (by omega), ecs j hj2]
      exact bf_nil_cons _ _
    | succ m ih =>
      intro i j e hi hj' hp
      have hj2 : j < n := by
        rcases Nat.lt_or_eq_of_le hj' with q | q
        · exact q
        · rw [q, pn] at hp; omega
      rw [ecs i (by omega), ecs j hj2, bf_cons, sget i (by omega), sget j hj2]
      have n1 := pnz i (by omega)
      have n2 := pnz j hj2
      have l1 := plt (i + 1)
      have l2 := plt (j + 1)
      rw [pstep i (by omega), pstep j hj2] at hp
      have hlx : lx (column t f) (pos (i + 1)) (pos (j + 1)) := by
        by_cases z : pos (i + 1) = pos (j + 1)
        · rw [z] at hp; omega
        · rcases lx_total (column t f) z with q | q
          · exact q
          · have := hL.up _ _ (by omega) (by omega) q; omega
      rcases hlx with q | ⟨q, q'⟩
      · left; omega
      · right
        exact ⟨by omega, ih (i + 1) (j + 1) (by omega) (by omega) (by omega) q'⟩
  -- the ends in order
  have hE := endsOf_spec s
  have hEl := ends_length hE
  have lpos : ∀ k, k < n → pos ((endsOf s).getD k 0) = k + 1 := fun k hk => by
    have big : ∀ k, k < n → 0 < pos ((endsOf s).getD k 0) := fun k hk => by
      have := ends_lt hE (k := k) (by omega)
      apply Nat.pos_of_ne_zero
      intro z
      have := pinj _ n (by omega) (Nat.le_refl _) (z.trans pn.symm)
      omega
    have := up_id (g := fun k => pos ((endsOf s).getD k 0) - 1) (n := n) (fun i j hij hj' => ?_) (fun k hk => ?_) hk
    · have := big k hk
      omega
    · have b1 := big i (by omega)
      have b2 := big j hj'
      have e1 := ends_lt hE (k := i) (by omega)
      have e2 := ends_lt hE (k := j) (by omega)
      have hb := ends_bf hE hij (by omega)
      rcases Nat.lt_trichotomy (pos ((endsOf s).getD i 0)) (pos ((endsOf s).getD j 0)) with q | q | q
      · show _ - 1 < _ - 1; omega
      · have := ends_inj hE (by omega) (by omega) (pinj _ _ (by omega) (by omega) q); omega
      · exact (bf_asymm hb (ord _ _ _ rfl (by omega) (by omega) q)).elim
    · have := plt ((endsOf s).getD k 0)
      have := big k hk
      show _ - 1 < _; omega
  unfold backOf
  simp only
  rw [hN, hs, if_pos]
  unfold turnedOf
  simp only
  refine Prod.ext ?_ ?_
  · apply List.ext_getElem
    · rw [List.length_map, hEl, hlen, hN]
    · intro k h1 h2
      rw [List.getElem_map]
      have hk2 : k < t.length := h2
      have hk : k < n := by omega
      have ek : (endsOf s)[k]'(by omega) = (endsOf s).getD k 0 := by rw [List.getD_eq_getElem?_getD, List.getElem?_eq_getElem (by omega)]; rfl
      rw [ek]
      have hp := lpos k hk
      have tk : t[k] = t.getD k 0 := by rw [List.getD_eq_getElem?_getD, List.getElem?_eq_getElem (by omega)]; rfl
      have hlt := ends_lt hE (k := k) (by omega)
      split
      · rename_i z
        rw [z, p0] at hp
        have : k = f := by omega
        subst this
        have e3 : s.getLast?.getD 0 = s.getD (n - 1) 0 := by
          rw [List.getLast?_eq_getElem?, List.getD_eq_getElem?_getD, hlen]
        rw [e3, sget (n - 1) (by omega), show n - 1 + 1 = n by omega, pn, column_zero, tk]
        omega
      · rename_i z
        have hkf : k ≠ f := fun q => z (pinj _ 0 (by omega) (by omega) (by rw [hp, p0, q]))
        rw [sget _ (by omega), show (endsOf s).getD k 0 - 1 + 1 = (endsOf s).getD k 0 by omega, hp, column_succ f (by omega), if_neg hkf, tk]
        omega
  · show (endsOf s).idxOf 0 = f
    have hp := lpos f (by omega)
    have h0 : (endsOf s).getD f 0 = 0 := pinj _ 0 (by have := ends_lt hE (k := f) (by omega); omega) (by omega) (by rw [hp, p0])
    have nd : (endsOf s).Nodup := hE.1.nodup_iff.mpr List.nodup_range
    have e0 : (endsOf s)[f]'(by omega) = 0 := by
      rw [List.getD_eq_getElem?_getD, List.getElem?_eq_getElem (by omega)] at h0; exact h0
    have := List.Nodup.idxOf_getElem nd f (by omega)
    rw [e0] at this
    exact this
/-- the walk came to its end too soon: there is no such text -/
theorem back_none {t P : List Nat} {f j : Nat} (hf : f < t.length) (r : Rows (column t f) P) (hj : j < t.length) (h0 : (column t f).getD (wk (leadsTo (column t f)) j) 0 = 0) : backOf t f = none := by
  have hL := leads_lead (column t f)
  unfold backOf
  simp only
  rw [if_neg]
  have hlen := backwards_len (column t f) t.length
  generalize backwards (column t f) t.length 0 [] = s at hlen
  intro ht
  have hE := endsOf_spec s
  have hEl := ends_length hE
  generalize hN : t.length = n at *
  have t1 : (endsOf s).map (fun (i : Nat) => if i = 0 then s.getLast?.getD 0 else s.getD (i - 1) 0) = t := congrArg Prod.fst ht
  have t2 : (endsOf s).idxOf 0 = f := congrArg Prod.snd ht
  have hcl : (column t f).length = n + 1 := by rw [column_len, hN]
  have lf : (endsOf s).getD f 0 = 0 := by
    have : (endsOf s)[(endsOf s).idxOf 0]'(by rw [t2]; omega) = 0 := List.getElem_idxOf _
    rw [List.getD_eq_getElem?_getD, List.getElem?_eq_getElem (by omega)]
    simp only [t2] at this
    exact this
  have lz : ∀ k, k < n → ((endsOf s).getD k 0 = 0 ↔ k = f) := fun k hk => by
    constructor
    · intro e; exact ends_inj hE (by omega) (by omega) (e.trans lf.symm)
    · rintro rfl; exact lf
  have tk : ∀ k, k < n → t.getD k 0 = if (endsOf s).getD k 0 = 0 then s.getLast?.getD 0 else s.getD ((endsOf s).getD k 0 - 1) 0 := fun k hk => by
    conv => lhs; rw [← t1]
    rw [List.getD_eq_getElem?_getD, List.getElem?_map, List.getElem?_eq_getElem (by omega), List.getD_eq_getElem?_getD, List.getElem?_eq_getElem (by omega)]
    rfl
  -- the place of the end with a number, the empty one's number 0
  obtain ⟨e, he⟩ : ∃ e : Nat → Nat, ∀ x, e x = if x = 0 then n else (endsOf s).getD (x - 1) 0 := ⟨_, fun _ => rfl⟩
  have e0 : e 0 = n := by rw [he, if_pos rfl]
  have es : ∀ k, e (k + 1) = (endsOf s).getD k 0 := fun k => by rw [he, if_neg (by omega)]; rfl
  have ele : ∀ x, x < n + 1 → e x ≤ n := fun x hx => by
    cases x with
    | zero => rw [e0]; omega
    | succ k => rw [es]; have := ends_lt hE (k := k) (by omega); omega
  have bx : ∀ x, x < n + 1 → (column t f).getD x 0 = if e x = 0 then 0 else s.getD (e x - 1) 0 + 1 := fun x hx => by
    cases x with
    | zero =>
      rw [e0, if_neg (by omega), column_zero, tk f (by omega), if_pos lf, List.getLast?_eq_getElem?, List.getD_eq_getElem?_getD, hlen]
    | succ k =>
      rw [column_succ f (by omega), es]
      by_cases q : k = f
      · rw [if_pos q, if_pos ((lz k (by omega)).mpr q)]
      · have q' : ¬ (endsOf s).getD k 0 = 0 := fun z => q ((lz k (by omega)).mp z)
        rw [if_neg q, if_neg q', tk k (by omega), if_neg q']
  have ecs : ∀ i, 0 < i → i ≤ n → end_ s (i - 1) = s.getD (i - 1) 0 :: end_ s i := fun i h1 h2 => by
    unfold end_
    rw [List.drop_eq_getElem_cons (by omega), List.getD_eq_getElem?_getD, List.getElem?_eq_getElem (by omega), show i - 1 + 1 = i by omega]; rfl
  have einj : ∀ x y, x < n + 1 → y < n + 1 → e x = e y → x = y := fun x y hx hy q => by
    cases x with
    | zero =>
      cases y with
      | zero => rfl
      | succ y => rw [e0, es] at q; have := ends_lt hE (k := y) (by omega); omega
    | succ x =>
      cases y with
      | zero => rw [e0, es] at q; have := ends_lt hE (k := x) (by omega); omega
      | succ y => rw [es, es] at q; rw [ends_inj hE (by omega) (by omega) q]
  have ebf : ∀ x y, x < n + 1 → y < n + 1 → x < y → bf (end_ s (e x)) (end_ s (e y)) := fun x y hx hy hxy => by
    obtain ⟨y, rfl⟩ : ∃ d, y = d + 1 := ⟨y - 1, by omega⟩
    cases x with
    | zero =>
      rw [e0, es, show end_ s n = [] from List.drop_eq_nil_of_le (by omega)]
      have := ends_lt hE (k := y) (by omega)
      have h3 := ecs ((endsOf s).getD y 0 + 1) (by omega) (by omega)
      rw [show (endsOf s).getD y 0 + 1 - 1 = (endsOf s).getD y 0 by omega] at h3
      rw [h3]
      exact bf_nil_cons _ _
    | succ x => rw [es, es]; exact ends_bf hE (by omega) (by omega)
  have ebf' : ∀ x y, x < n + 1 → y < n + 1 → bf (end_ s (e x)) (end_ s (e y)) → x < y := fun x y hx hy hb => by
    rcases Nat.lt_trichotomy x y with q | q | q
    · exact q
    · subst q; exact (bf_irrefl _ hb).elim
    · exact (bf_asymm hb (ebf y x hy hx q)).elim
  -- the number of the end one byte longer
  have ex : ∀ x, x < n + 1 → ∃ y, y < n + 1 ∧ ((e x = 0 ∧ y = 0) ∨ (0 < e x ∧ e y = e x - 1)) := fun x hx => by
    by_cases q : e x = 0
    · exact ⟨0, by omega, .inl ⟨q, rfl⟩⟩
    · have := ele x hx
      obtain ⟨k, hk, ek⟩ := ends_surj hE (p := e x - 1) (by omega)
      exact ⟨k + 1, by omega, .inr ⟨by omega, by rw [es]; exact ek⟩⟩
  obtain ⟨M, hM⟩ : ∃ M : Nat → Nat, ∀ x, x < n + 1 → M x < n + 1 ∧ ((e x = 0 ∧ M x = 0) ∨ (0 < e x ∧ e (M x) = e x - 1)) :=
    ⟨fun x => if h : x < n + 1 then (ex x h).choose else 0, fun x hx => by simp only [dif_pos hx]; exact (ex x hx).choose_spec⟩
  have LM : Lead (column t f) M := by
    refine ⟨fun i hi => by rw [hcl] at *; exact (hM i hi).1, fun x y hx hy h => ?_⟩
    rw [hcl] at hx hy
    obtain ⟨a1, a2⟩ := hM x hx
    obtain ⟨b1, b2⟩ := hM y hy
    unfold lx at h
    rw [bx x hx, bx y hy] at h
    rcases b2 with ⟨b2, b3⟩ | ⟨b2, b3⟩
    · exfalso
      rw [if_pos b2] at h
      rcases h with h | ⟨h, hxy⟩
      · omega
      · split at h
        · rename_i q
          have := einj x y hx hy (q.trans b2.symm); omega
        · omega
    · rw [if_neg (show ¬ e y = 0 by omega)] at h
      rcases a2 with ⟨a2, a3⟩ | ⟨a2, a3⟩
      · rw [a3]
        apply Nat.pos_of_ne_zero
        intro z
        rw [z, e0] at b3
        have := ele y hy
        omega
      · rw [if_neg (show ¬ e x = 0 by omega)] at h
        refine ebf' _ _ a1 b1 ?_
        rw [a3, b3, ecs _ a2 (ele x hx), ecs _ b2 (ele y hy), bf_cons]
        rcases h with h | ⟨h, hxy⟩
        · left; omega
        · right; exact ⟨by omega, ebf x y hx hy hxy⟩
  have walk : ∀ k, k ≤ n → e (wk (leadsTo (column t f)) k) = n - k := by
    intro k
    induction k with
    | zero => intro _; exact e0
    | succ k ih =>
      intro hk
      have hw := wk_lt hL k
      have q := hL.eq LM r (i := wk (leadsTo (column t f)) k) (by omega)
      have hi := ih (by omega)
      show e (leadsTo (column t f) (wk (leadsTo (column t f)) k)) = _
      rw [q]
      rcases (hM (wk (leadsTo (column t f)) k) (by omega)).2 with ⟨c1, _⟩ | ⟨_, c2⟩
      · omega
      · rw [c2, hi]; omega
  have hw := wk_lt hL j
  have := walk j (by omega)
  have h3 := bx (wk (leadsTo (column t f)) j) (by omega)
  rw [h0, this, if_neg (by omega)] at h3
  omega
end TE
end

section
/-! The different pieces, counted end by end. -/
namespace TE
open Sw16
/-- how many pieces are new in the ends before the one with number k -/
def pb (s o : List Nat) : Nat → Nat
  | 0 => 0
  | k + 1 => pb s o k + (s.length - o.getD k 0 - sh s o k)
theorem pb_mono (s o : List Nat) {i j : Nat} (h : i ≤ j) : pb s o i ≤ pb s o j := by
  induction j with
  | zero => rw [Nat.le_zero.mp h]; exact Nat.le_refl _
  | succ j ih =>
    rcases Nat.lt_or_eq_of_le h with q | rfl
    · exact Nat.le_trans (ih (by omega)) (by show pb s o j ≤ pb s o j + _; omega)
    · exact Nat.le_refl _
theorem flat_len (s o : List Nat) : ∀ m, ((List.range m).flatMap (pcAt s o)).length = pb s o m
  | 0 => rfl
  | m + 1 => by
    rw [List.range_succ, List.flatMap_append, List.length_append, flat_len s o m]
    show pb s o m + ([m].flatMap (pcAt s o)).length = _
    rw [List.flatMap_singleton, pcAt_length]
    rfl
theorem flat_get (s o : List Nat) {f K : Nat} (h1 : pb s o f ≤ K) (h2 : K < pb s o (f + 1)) : ∀ m, f < m → ((List.range m).flatMap (pcAt s o))[K]? = (pcAt s o f)[K - pb s o f]?
  | 0, h => by omega
  | m + 1, h => by
    rw [List.range_succ, List.flatMap_append, List.flatMap_singleton]
    rcases Nat.lt_or_eq_of_le (Nat.le_of_lt_succ h) with q | rfl
    · rw [List.getElem?_append_left (by rw [flat_len]; exact Nat.lt_of_lt_of_le h2 (pb_mono s o q))]
      exact flat_get s o h1 h2 m q
    · rw [List.getElem?_append_right (by rw [flat_len]; exact h1), flat_len]
theorem pieces_len {s o : List Nat} (h : Ends s o) : (piecesOf s).length = pb s o s.length := by rw [← pcs_spec h]; exact flat_len s o _
theorem pieces_get {s o : List Nat} (h : Ends s o) {f K : Nat} (hf : f < s.length) (h1 : pb s o f ≤ K) (h2 : K < pb s o (f + 1)) :
    (piecesOf s)[K]? = some ((end_ s (o.getD f 0)).take (sh s o f + 1 + (K - pb s o f))) := by
  rw [← pcs_spec h]
  unfold pcs
  rw [flat_get s o h1 h2 _ hf]
  have h3 : K < pb s o f + (s.length - o.getD f 0 - sh s o f) := h2
  unfold pcAt
  rw [List.getElem?_map, List.getElem?_range (by omega)]
  show some ((end_ s (o.getD f 0)).take (sh s o f + (K - pb s o f) + 1)) = _
  rw [show sh s o f + (K - pb s o f) + 1 = sh s o f + 1 + (K - pb s o f) by omega]
/-- where a piece stands that is new at an end -/
theorem new_stands {s o : List Nat} (h : Ends s o) {f b len : Nat} (hfb : f < b) (hb : b ≤ s.length) (h1 : sh s o f < len) (h2 : len ≤ s.length - o.getD f 0) (mid : ∀ k, f < k → k < b → len ≤ sh s o k) (stop : b < s.length → sh s o b < len)
    {k : Nat} (hk : k < s.length) : stands s ((end_ s (o.getD f 0)).take len) (o.getD k 0) = true ↔ f ≤ k ∧ k < b := by
  have hw : ((end_ s (o.getD f 0)).take len).length = len := by rw [List.length_take, end_length]; omega
  rw [stands_iff, hw]
  have key : ∀ {x y : List Nat}, (x.take len).length = len → (y.take len = x.take len ↔ len ≤ common y x) := fun {x y} hx => by
    constructor
    · intro e
      have hy : (y.take len).length = len := by rw [e]; exact hx
      rw [List.length_take] at hx hy
      exact (take_eq_iff len y x (by omega) (by omega)).mp e
    · exact take_eq_of_le
  rw [key hw]
  rcases Nat.lt_trichotomy k f with q | q | q
  · constructor
    · intro e
      have := common_le_sh h q (Nat.le_refl _) (by omega)
      omega
    · omega
  · subst q
    constructor
    · intro _; exact ⟨Nat.le_refl _, hfb⟩
    · intro _; rw [common_self, end_length]; exact h2
  · rw [common_comm]
    constructor
    · intro e
      refine ⟨by omega, ?_⟩
      apply Nat.lt_of_not_le
      intro z
      have s1 := stop (by omega)
      have s2 := common_le_sh h hfb z hk
      omega
    · rintro ⟨_, e⟩
      exact (common_ge h q hk).mpr fun j a c => mid j a (by omega)
theorem new_first {s o : List Nat} (h : Ends s o) {f b len m : Nat} (hfb : f < b) (hb : b ≤ s.length) (h1 : sh s o f < len) (h2 : len ≤ s.length - o.getD f 0) (mid : ∀ k, f < k → k < b → len ≤ sh s o k) (stop : b < s.length → sh s o b < len)
    (hm : ∃ k, f ≤ k ∧ k < b ∧ o.getD k 0 = m) (hmin : ∀ k, f ≤ k → k < b → m ≤ o.getD k 0) : firstOf s ((end_ s (o.getD f 0)).take len) = m := by
  obtain ⟨k, k1, k2, rfl⟩ := hm
  refine firstOf_is (ends_lt h (by omega)) ((new_stands h hfb hb h1 h2 mid stop (by omega)).mpr ⟨k1, k2⟩) fun i hi hs => ?_
  obtain ⟨j, hj, rfl⟩ := ends_surj h hi
  have := (new_stands h hfb hb h1 h2 mid stop hj).mp hs
  exact hmin j this.1 this.2
/-- all that is told of piece k -/
theorem piece_told {s o : List Nat} (h : Ends s o) {f b K m : Nat} (hf : f < s.length) (h1 : pb s o f ≤ K) (h2 : K < pb s o (f + 1)) (hfb : f < b) (hb : b ≤ s.length)
    (mid : ∀ k, f < k → k < b → sh s o f + 1 + (K - pb s o f) ≤ sh s o k) (stop : b < s.length → sh s o b < sh s o f + 1 + (K - pb s o f)) (hm : ∃ k, f ≤ k ∧ k < b ∧ o.getD k 0 = m) (hmin : ∀ k, f ≤ k → k < b → m ≤ o.getD k 0) :
    tellsOf s (.piece K) = ⟨0, [m, sh s o f + 1 + (K - pb s o f)], []⟩ := by
  have h3 : K < pb s o f + (s.length - o.getD f 0 - sh s o f) := h2
  have hlen : sh s o f + 1 + (K - pb s o f) ≤ s.length - o.getD f 0 := by omega
  show (match (piecesOf s)[K]? with | some w => (⟨0, [firstOf s w, w.length], []⟩ : Ans) | none => says (-1)) = _
  rw [pieces_get h hf h1 h2]
  show (⟨0, [_, _], []⟩ : Ans) = _
  rw [new_first h hfb hb (by omega) hlen mid stop hm hmin, List.length_take, end_length, Nat.min_eq_left hlen]
theorem piece_over {s o : List Nat} (h : Ends s o) {K : Nat} (hK : pb s o s.length ≤ K) : tellsOf s (.piece K) = says (-1) := by
  show (match (piecesOf s)[K]? with | some w => (⟨0, [firstOf s w, w.length], []⟩ : Ans) | none => says (-1)) = _
  rw [List.getElem?_eq_none (by rw [pieces_len h]; exact hK)]
end TE
end

section
/-! turn and back, as the program reckons them. -/
namespace TE
open Sw16
/-- the byte before an end -/
def tb (s : List Nat) (i : Nat) : Nat := if i = 0 then s.getLast?.getD 0 else s.getD (i - 1) 0
theorem turned_is {s o : List Nat} (h : Ends s o) : (turnedOf s).1 = o.map (tb s) := by
  show (endsOf s).map _ = _
  rw [← ends_unique h]
  rfl
theorem turned_first {s o N : List Nat} (h : Ends s o) (hs : s ≠ []) (hN : ∀ k, k < o.length → N.getD (o.getD k 0) 0 = k) : (turnedOf s).2 = N.getD 0 0 := by
  show (endsOf s).idxOf 0 = _
  rw [← ends_unique h]
  have hn : 0 < s.length := List.length_pos_iff.mpr hs
  obtain ⟨k, hk, e⟩ := ends_surj h hn
  have hl := ends_length h
  have nd : o.Nodup := h.1.nodup_iff.mpr List.nodup_range
  have e0 : o[k]'(by omega) = 0 := by rw [List.getD_eq_getElem?_getD, List.getElem?_eq_getElem (by omega)] at e; exact e
  have := List.Nodup.idxOf_getElem nd k (by omega)
  rw [e0] at this
  rw [this, ← hN k (by omega), e]
/-- the column as the program has it: -1 for none -/
def colz (t : List Nat) (f : Nat) : List Int := (column t f).map fun (x : Nat) => (x : Int) - 1
theorem colz_len (t : List Nat) (f : Nat) : (colz t f).length = t.length + 1 := by unfold colz; rw [List.length_map, column_len]
theorem colz_get {t : List Nat} {f i : Nat} (h : i < t.length + 1) : (colz t f).getD i 0 = ((column t f).getD i 0 : Int) - 1 := by
  unfold colz
  rw [List.getD_eq_getElem?_getD, List.getElem?_map, List.getElem?_eq_getElem (by rw [column_len]; exact h), List.getD_eq_getElem?_getD, List.getElem?_eq_getElem (by rw [column_len]; exact h)]
  rfl
theorem colz_is {t : List Nat} {f : Nat} (hf : f < t.length) : colz t f = (t.getD f 0 : Int) :: ((t.take f).map (fun (x : Nat) => (x : Int)) ++ [-1] ++ (t.drop (f + 1)).map (fun (x : Nat) => (x : Int))) := by
  apply List.ext_getElem?
  intro i
  by_cases hi : i < t.length + 1
  · have e1 : (colz t f)[i]? = some ((colz t f).getD i 0) := by rw [List.getD_eq_getElem?_getD, List.getElem?_eq_getElem (by rw [colz_len]; exact hi)]; rfl
    rw [e1, colz_get hi]
    cases i with
    | zero => rw [column_zero]; simp
    | succ k =>
      rw [column_succ f (by omega), List.getElem?_cons_succ]
      have hl : ((t.take f).map (fun (x : Nat) => (x : Int))).length = f := by rw [List.length_map, List.length_take]; omega
      have gk : ∀ j, j < t.length → t[j]? = some (t.getD j 0) := fun j hj => by rw [List.getD_eq_getElem?_getD, List.getElem?_eq_getElem hj]; rfl
      rcases Nat.lt_trichotomy k f with q | q | q
      · rw [if_neg (by omega), List.append_assoc, List.getElem?_append_left (by omega), List.getElem?_map, List.getElem?_take_of_lt q, gk k (by omega)]
        show some (((t.getD k 0 + 1 : Nat) : Int) - 1) = some ((t.getD k 0 : Nat) : Int)
        congr 1
        omega
      · subst q
        rw [if_pos rfl, List.append_assoc, List.getElem?_append_right (by omega), hl, Nat.sub_self]
        rfl
      · rw [if_neg (by omega), List.getElem?_append_right (by rw [List.length_append, hl]; simp; omega), List.length_append, hl, List.getElem?_map, List.getElem?_drop]
        rw [show f + 1 + (k - (f + [(-1 : Int)].length)) = k by simp; omega, gk k (by omega)]
        show some (((t.getD k 0 + 1 : Nat) : Int) - 1) = some ((t.getD k 0 : Nat) : Int)
        congr 1
        omega
  · rw [List.getElem?_eq_none (by rw [colz_len]; omega), List.getElem?_eq_none]
    simp
    omega
theorem rows_of {t P : List Nat} {f : Nat} (h : ByKeys (colz t f) P) : Rows (column t f) P := by
  have hl : (column t f).length = (colz t f).length := by rw [colz_len, column_len]
  refine ⟨by rw [hl]; exact h.perm, ?_⟩
  refine (List.Pairwise.and h.srt h.stb).imp_of_mem fun {a b} ha hb hq => ?_
  obtain ⟨h1, h2⟩ := hq
  have ha' := List.mem_range.mp (h.perm.mem_iff.mp ha)
  have hb' := List.mem_range.mp (h.perm.mem_iff.mp hb)
  rw [colz_len] at ha' hb'
  rw [colz_get ha', colz_get hb'] at h1 h2
  unfold lx
  by_cases q : (column t f).getD a 0 = (column t f).getD b 0
  · exact .inr ⟨q, h2 (by rw [q])⟩
  · left; omega
/-- the bytes that the walk met, the first of them last -/
def met (t : List Nat) (f j : Nat) : List Nat := (List.range j).map fun m => (column t f).getD (wk (leadsTo (column t f)) m) 0 - 1
theorem met_len (t f j) : (met t f j).length = j := by unfold met; rw [List.length_map, List.length_range]
theorem met_snoc (t f j) : met t f (j + 1) = met t f j ++ [(column t f).getD (wk (leadsTo (column t f)) j) 0 - 1] := by unfold met; rw [List.range_succ, List.map_append]; rfl
theorem met_back (t : List Nat) (f n : Nat) : (met t f n).reverse = backwards (column t f) n 0 [] := by
  have := backwards_is (column t f) n 0 []
  rw [show wk (leadsTo (column t f)) 0 = 0 from rfl, List.append_nil] at this
  rw [this]
  apply List.ext_getElem
  · rw [List.length_reverse, met_len]; simp
  · intro i h1 h2
    rw [List.length_reverse, met_len] at h1
    rw [List.getElem_reverse]
    unfold met
    rw [List.getElem_map, List.getElem_range, List.getElem_map, List.getElem_range, List.length_map, List.length_range, Nat.zero_add]
end TE
end

section
/-! The list of calls, call by call. -/
namespace TE
open PyFlat
abbrev Call := List (List Int)
/-- a call as it stands in the list -/
def flat (c : Call) : List Int := match c with
  | [hd] => hd
  | [hd, x] => hd ++ (x.length : Int) :: x
  | _ => []
inductive Good : Call → Prop
  | open_ (n : Int) (x : List Int) : Good [[1, n], x]
  | at_ (k : Int) : Good [[2, k]]
  | find (n : Int) (x : List Int) : Good [[3, n], x]
  | common (i j : Int) : Good [[4, i, j]]
  | twice (t : Int) : Good [[5, t]]
  | pieces : Good [[6]]
  | piece (k : Int) : Good [[7, k]]
  | turn : Good [[8]]
  | back (n f : Int) (x : List Int) : Good [[9, n, f], x]
theorem row_some {s x t : List Int} (h : row s = some (x, t)) : s = (x.length : Int) :: (x ++ t) := by
  cases s with
  | nil => cases h
  | cons m r =>
    unfold row at h
    dsimp only at h
    by_cases hc : 0 ≤ m ∧ m.toNat ≤ r.length
    · rw [if_pos hc] at h
      cases h
      rw [List.length_take, Nat.min_eq_left hc.2, List.take_append_drop, Int.toNat_of_nonneg hc.1]
    · rw [if_neg hc] at h; cases h
theorem rows_one {s t : List Int} {xs : List (List Int)} (h : rows 1 s = some (xs, t)) : ∃ x, xs = [x] ∧ s = (x.length : Int) :: (x ++ t) := by
  unfold rows at h
  cases hr : row s with
  | none => rw [hr] at h; cases h
  | some p =>
    obtain ⟨x, s'⟩ := p
    rw [hr] at h
    have h' : some ([x], s') = some (xs, t) := h
    cases h'
    exact ⟨x, rfl, row_some hr⟩
theorem rows_none {s t : List Int} {xs : List (List Int)} (h : rows 0 s = some (xs, t)) : xs = [] ∧ s = t := by
  have h' : some (([] : List (List Int)), s) = some (xs, t) := h
  cases h'
  exact ⟨rfl, rfl⟩
theorem call_at {p : Int} {r t : List Int} {c : Call} {n k : Nat} (hs : PySw16.shape p = some (n, k)) (h : call PySw16.shape (p :: r) = some (c, t)) : n ≤ r.length ∧ ∃ xs, rows k (r.drop n) = some (xs, t) ∧ c = (p :: r.take n) :: xs := by
  unfold call at h
  dsimp only at h
  rw [hs] at h
  by_cases hn : r.length < n
  · simp [hn] at h
  · refine ⟨by omega, ?_⟩
    simp only [hn, if_false] at h
    cases hr : rows k (r.drop n) with
    | none => rw [hr] at h; cases h
    | some q =>
      obtain ⟨xs, t'⟩ := q
      rw [hr] at h
      have h' : some ((p :: r.take n) :: xs, t') = some (c, t) := h
      cases h'
      exact ⟨xs, rfl, rfl⟩
theorem call_good {l t : List Int} {c : Call} (h : call PySw16.shape l = some (c, t)) : Good c ∧ l = flat c ++ t := by
  cases l with
  | nil => cases h
  | cons p r =>
    by_cases h1 : p = 1
    · subst h1
      obtain ⟨hn, xs, hr, rfl⟩ := call_at (n := 1) (k := 1) rfl h
      match r, hn with
      | a :: r', _ =>
        obtain ⟨x, rfl, e⟩ := rows_one hr
        have e : r' = (x.length : Int) :: (x ++ t) := e
        subst e
        exact ⟨.open_ a x, rfl⟩
    by_cases h2 : p = 2
    · subst h2
      obtain ⟨hn, xs, hr, rfl⟩ := call_at (n := 1) (k := 0) rfl h
      match r, hn with
      | a :: r', _ =>
        obtain ⟨rfl, e⟩ := rows_none hr
        have e : r' = t := e
        subst e
        exact ⟨.at_ a, rfl⟩
    by_cases h3 : p = 3
    · subst h3
      obtain ⟨hn, xs, hr, rfl⟩ := call_at (n := 1) (k := 1) rfl h
      match r, hn with
      | a :: r', _ =>
        obtain ⟨x, rfl, e⟩ := rows_one hr
        have e : r' = (x.length : Int) :: (x ++ t) := e
        subst e
        exact ⟨.find a x, rfl⟩
    by_cases h4 : p = 4
    · subst h4
      obtain ⟨hn, xs, hr, rfl⟩ := call_at (n := 2) (k := 0) rfl h
      match r, hn with
      | a :: b :: r', _ =>
        obtain ⟨rfl, e⟩ := rows_none hr
        have e : r' = t := e
        subst e
        exact ⟨.common a b, rfl⟩
    by_cases h5 : p = 5
    · subst h5
      obtain ⟨hn, xs, hr, rfl⟩ := call_at (n := 1) (k := 0) rfl h
      match r, hn with
      | a :: r', _ =>
        obtain ⟨rfl, e⟩ := rows_none hr
        have e : r' = t := e
        subst e
        exact ⟨.twice a, rfl⟩
    by_cases h6 : p = 6
    · subst h6
      obtain ⟨hn, xs, hr, rfl⟩ := call_at (n := 0) (k := 0) rfl h
      obtain ⟨rfl, e⟩ := rows_none hr
      have e : r = t := e
      subst e
      exact ⟨.pieces, rfl⟩
    by_cases h7 : p = 7
    · subst h7
      obtain ⟨hn, xs, hr, rfl⟩ := call_at (n := 1) (k := 0) rfl h
      match r, hn with
      | a :: r', _ =>
        obtain ⟨rfl, e⟩ := rows_none hr
        have e : r' = t := e
        subst e
        exact ⟨.piece a, rfl⟩
    by_cases h8 : p = 8
    · subst h8
      obtain ⟨hn, xs, hr, rfl⟩ := call_at (n := 0) (k := 0) rfl h
      obtain ⟨rfl, e⟩ := rows_none hr
      have e : r = t := e
      subst e
      exact ⟨.turn, rfl⟩
    by_cases h9 : p = 9
    · subst h9
      obtain ⟨hn, xs, hr, rfl⟩ := call_at (n := 2) (k := 1) rfl h
      match r, hn with
      | a :: b :: r', _ =>
        obtain ⟨x, rfl, e⟩ := rows_one hr
        have e : r' = (x.length : Int) :: (x ++ t) := e
        subst e
        exact ⟨.back a b x, rfl⟩
    exfalso
    have : PySw16.shape p = none := by
      unfold PySw16.shape
      simp [h1, h2, h3, h4, h5, h6, h7, h8, h9]
    unfold call at h
    dsimp only at h
    rw [this] at h
    cases h
theorem calls_nil {f : Nat} {cs : List Call} (h : calls PySw16.shape f [] = some cs) : cs = [] := by
  cases f <;> (unfold calls at h; cases h; rfl)
theorem calls_cons {f : Nat} {l : List Int} {cs : List Call} (hl : l ≠ []) (h : calls PySw16.shape f l = some cs) : ∃ c t cs' f', cs = c :: cs' ∧ Good c ∧ l = flat c ++ t ∧ calls PySw16.shape f' t = some cs' := by
  cases l with
  | nil => exact (hl rfl).elim
  | cons p r =>
    cases f with
    | zero => unfold calls at h; cases h
    | succ f =>
      unfold calls at h
      cases hc : call PySw16.shape (p :: r) with
      | none => rw [hc] at h; cases h
      | some q =>
        obtain ⟨c, t⟩ := q
        rw [hc] at h
        cases hcs : calls PySw16.shape f t with
        | none => simp only [hcs] at h; cases h
        | some cs' =>
          simp only [hcs] at h
          cases h
          obtain ⟨g, e⟩ := call_good hc
          exact ⟨c, t, cs', f, rfl, g, e, hcs⟩
theorem whole_good {c : Call} (h : Good c) : PySw16.whole c = c := by cases h <;> rfl
theorem calls_good : ∀ (cs : List Call) {f : Nat} {l : List Int}, calls PySw16.shape f l = some cs → ∀ c ∈ cs, Good c
  | [], _, _, _, c, hc => by simp at hc
  | d :: ds, f, l, h, c, hc => by
    have hl : l ≠ [] := fun z => by
      subst z
      have := calls_nil h
      cases this
    obtain ⟨c', t, cs', f', e, g, _, h'⟩ := calls_cons hl h
    cases e
    rcases List.mem_cons.mp hc with q | q
    · rw [q]; exact g
    · exact calls_good ds h' c q
theorem whole_map {cs : List Call} (h : ∀ c ∈ cs, Good c) : cs.map PySw16.whole = cs :=
  (List.map_congr_left fun c hc => whole_good (h c hc)).trans (List.map_id cs)
theorem flat_pos {c : Call} (h : Good c) : 0 < (flat c).length := by
  cases h <;> simp [flat]
theorem told_len : ∀ (st : Sw16Neutral.S) (cs : List Call), (told (played Sw16Neutral.step st cs)).length = Sw16Neutral.numbersOf st cs + cs.length
  | _, [] => rfl
  | st, c :: cs => by
    show (told ((Sw16Neutral.step st c).2 :: played Sw16Neutral.step (Sw16Neutral.step st c).1 cs)).length = _
    unfold told
    rw [List.flatMap_cons, List.length_append]
    have := told_len (Sw16Neutral.step st c).1 cs
    unfold told at this
    rw [this]
    show (Sw16Neutral.step st c).2.length + 1 + _ = ((Sw16Neutral.step st c).2.length + Sw16Neutral.numbersOf (Sw16Neutral.step st c).1 cs) + (cs.length + 1)
    omega
theorem told_cons (st : Sw16Neutral.S) (c : Call) (cs : List Call) : told (played Sw16Neutral.step st (c :: cs)) = (((Sw16Neutral.step st c).2.length : Int) :: (Sw16Neutral.step st c).2) ++ told (played Sw16Neutral.step (Sw16Neutral.step st c).1 cs) := by
  show told ((Sw16Neutral.step st c).2 :: played Sw16Neutral.step (Sw16Neutral.step st c).1 cs) = _
  unfold told
  rw [List.flatMap_cons]
/-- what is asked of a list of calls -/
theorem asked_is {l : List Int} (h : PySw16.answers_asked l = true) : ∃ cs, calls PySw16.shape l.length l = some cs ∧ PySw16.answers l = told (played Sw16Neutral.step Sw16Neutral.start cs) ∧ (∀ c ∈ cs, Sw16Neutral.asked1 c = true) ∧ cs.length ≤ 400 ∧ Sw16Neutral.numbersOf Sw16Neutral.start cs ≤ 1000000 := by
  unfold PySw16.answers_asked at h
  unfold PySw16.answers
  unfold PySw16.calls at *
  cases hc : calls PySw16.shape l.length l with
  | none => rw [hc] at h; cases h
  | some cs =>
    rw [hc] at h
    have hw := whole_map (calls_good cs hc)
    simp only [hw] at h ⊢
    rw [Bool.and_eq_true] at h
    have h2 := h.2
    unfold Sw16Neutral.asked at h2
    rw [Bool.and_eq_true, Bool.and_eq_true] at h2
    exact ⟨cs, rfl, rfl, List.all_eq_true.mp h2.1, of_decide_eq_true h2.2.1, of_decide_eq_true h2.2.2⟩
/-- bytes as ints and as naturals -/
theorem nats_back {x : List Int} (h : x.all (fun (z : Int) => Sw16Neutral.natural z 8) = true) : x = ofNats (Sw16Neutral.nats x) := by
  unfold ofNats Sw16Neutral.nats
  rw [List.map_map]
  have := List.all_eq_true.mp h
  refine (List.map_id x).symm.trans (List.map_congr_left fun z hz => ?_)
  have h1 := this z hz
  unfold Sw16Neutral.natural at h1
  rw [Bool.and_eq_true] at h1
  have := of_decide_eq_true h1.1
  show z = ((z.toNat : Nat) : Int)
  omega
theorem nats_len (x : List Int) : (Sw16Neutral.nats x).length = x.length := by unfold Sw16Neutral.nats; rw [List.length_map]
end TE
end

section
set_option Elab.async false
set_option linter.all false
set_option maxRecDepth 100000
set_option maxHeartbeats 2000000
namespace L2
open PySem PySem.Spec PyProof.Rows
open PySem.W (WData Codec OpenSpec Well WellAll ReadsW ReadsAllW)
/-! ### a call whose defs make lambdas: the table at Pt is tracked, too -/
theorem upd_more {H : Hp} {p : Addr} {o : HO} (h : H p = none) : Same H (upd H p o) := fun b u e => by rw [upd_ne (ne_of_none e h)]; exact e
theorem call_tab {P : Program} {w : World} {K : PySem.W.Frag} {mg mb : Str → Option Value} {k : Nat} {fa c Pt : Addr} {fd : FuncData} {ps : List Str} {sp : Sp} {s₁ : Shared} {vals : List Value} {ds : List WData} {R : PySem.W.WRecords} {cl : Str → Option Addr} {d0 : WData}
    (KX : K.In s₁.heap) (hns : s₁.heap.Ns mainGlobals mg) (hb : s₁.heap.Ns builtinsNs mb) (hbb : ∀ x : Str, x ≠ "__name__" → mb x = bootBuiltins x) (hlim : s₁.heap.NoLimit) (hg : s₁.gens = #[])
    (hwl : WellAll w.params s₁.heap vals ds) (hpl : plWs ds = true) (hwt : ∀ d ∈ ds, d.weight ≤ 1048576) (hr : Room k callerA)
    (hP : s₁.heap.get? Pt = some (PySem.W.tabObj #[])) (hcd : PySem.W.CodeHd s₁.heap c Pt) (hno : K.lookup Pt = none) (hbm : s₁.heap.BuiltinsAt mg Pt)
    (F : ∀ base : Heap, K.In base → base.Ns mainGlobals mg → base.BuiltinsAt mg Pt → FnOk P w K mg base CX0 k fa fd ps sp) (hbind : ∀ (s : Shared) (us : List Value), us.length = ps.length → BindsTo s fd ⟨us, []⟩ (ps.zip us)) (hlen : ds.length = ps.length)
    (hsp : ∀ (H H' : Hp) (xs : List V), DwAll K H xs ds → Same H H' → H' Pt = some (.tbl #[]) → sp xs H' (fun v H' => Dw K H' v d0) fun _ _ _ => False) :
    codeAny (model P w) callerA (.call (.ref fa) ⟨vals, []⟩) (fun r s' => ∃ u as, r = .ok (.ret u) ∧ ReadsW R cl s'.heap u d0 as ∧ OldK s₁.heap s'.heap ∧ s'.os = s₁.os ∧ AllBare s'.gens) s₁ := by
  obtain ⟨A, ho, ar⟩ := area_all ds vals hwl hpl hwt
  have only : OnlyF (argH K s₁.heap A) := argH_only ar
  have ok0 : HOk P w (argH K s₁.heap A) s₁.heap := argH_ok ar
  have hS := dw_all KX ar ds vals hwl hpl ho
  have hV := vals_toV ho
  -- what an argument's object is
  have isSeq : ∀ {b : Addr} {u : HO} {o : Obj}, argH K s₁.heap A b = some u → s₁.heap.get? b = some o → K.lookup b = none ∧ (∃ (vs : Array Value) (n : Nat), o.data = .seq vs n) ∧ (o.cls = .type "list" ∨ o.cls = .type "tuple") := fun {b u o} q e => by
    obtain ⟨h1, vs, _, _, ⟨e2, _⟩ | ⟨e2, _⟩⟩ := argH_is ar q
    · rw [e2] at e; cases e; exact ⟨h1, ⟨_, _, rfl⟩, .inl rfl⟩
    · rw [e2] at e; cases e; exact ⟨h1, ⟨_, _, rfl⟩, .inr rfl⟩
  have nP : argH K s₁.heap A Pt = none := by
    cases q : argH K s₁.heap A Pt with
    | none => rfl
    | some u =>
      obtain ⟨_, ⟨vs, n, z⟩, _⟩ := isSeq q hP
      cases z
  generalize argH K s₁.heap A = H0 at only ok0 hS isSeq nP
  have more : Same H0 (upd H0 Pt (.tbl #[])) := upd_more nP
  have hat : (upd H0 Pt (.tbl #[])) Pt = some (.tbl #[]) := upd_same
  have hok : HOk P w (upd H0 Pt (.tbl #[])) s₁.heap := fun b u e => by
    by_cases hb : b = Pt
    · subst hb; rw [upd_same] at e; cases e; exact hP
    · rw [upd_ne hb] at e
      exact (ok0 b u e).stay (fun _ _ _ q => q) (fun x q => more _ _ q) fun x xs q => more _ _ q
  have look : ∀ b u, (upd H0 Pt (.tbl #[])) b = some u → b = Pt ∨ H0 b = some u := fun b u e => by
    by_cases hb : b = Pt
    · exact .inl hb
    · rw [upd_ne hb] at e; exact .inr e
  have none_of : ∀ {b : Addr} {o : Obj}, s₁.heap.get? b = some o → (∀ vs n, o.data ≠ .seq vs n) → b ≠ Pt → (upd H0 Pt (.tbl #[])) b = none := fun {b o} e hd hb => by
    cases q : (upd H0 Pt (.tbl #[])) b with
    | none => rfl
    | some u =>
      rcases look b u q with z | z
      · exact (hb z).elim
      · obtain ⟨_, ⟨vs, n, y⟩, _⟩ := isSeq z e
        exact (hd vs n y).elim
  have dictP : ∀ {b : Addr} {o : Obj} {es : Array DictEntry} {ep : Nat}, s₁.heap.get? b = some o → o.data = .dict es ep → (upd H0 Pt (.tbl #[])) b = none := fun {b o es ep} e d =>
    none_of e (fun vs n z => by rw [d] at z; cases z) fun z => by rw [z, hP] at e; cases e; cases d
  have hK : ∀ b u, (upd H0 Pt (.tbl #[])) b = some u → K.lookup b = none := fun b u q => by
    rcases look b u q with z | z
    · rw [z]; exact hno
    · obtain ⟨o, e⟩ : ∃ o, s₁.heap.get? b = some o := Option.isSome_iff_exists.mp (by
        have := (ok0 b u z).lt
        cases hb : s₁.heap.get? b with
        | some _ => rfl
        | none =>
          rcases only b with y | ⟨ob, u2, y⟩
          · rw [z] at y; cases y
          · have := (ok0 b _ y).1; rw [hb] at this; cases this)
      exact (isSeq z e).1
  generalize hH : upd H0 Pt (.tbl #[]) = H at more hat hok look none_of dictP hK
  have base_of : ∀ {b : Addr} {o : Obj}, s₁.heap.get? b = some o → H b = none → (hidT s₁.heap H).get? b = some o := fun e n => hidT_get e n
  have nsK : ∀ {b : Addr} {m : Str → Option Value}, s₁.heap.Ns b m → (hidT s₁.heap H).Ns b m := fun {b m} ⟨o, es, ep, e, d, r⟩ => ⟨o, es, ep, base_of e (dictP e d), d, r⟩
  have nK : ∀ b o, K.lookup b = some o → H b = none := fun b o e => by
    cases q : H b with
    | none => rfl
    | some u => rw [hK b u q] at e; cases e
  have hKb : K.In (hidT s₁.heap H) := fun b o e => base_of (KX b o e) (nK b o e)
  have hbm' : (hidT s₁.heap H).BuiltinsAt mg Pt := by
    obtain ⟨bm, o, m1, m2, m3, m4, m5, m6, m7, m8⟩ := hbm
    exact ⟨bm, o, m1, m2, m3, m4, base_of m5 (none_of m5 (fun vs n z => by rw [m8] at z; cases z) m4), m6, m7, m8⟩
  have hM : Mod K mg (hidT s₁.heap H) := ⟨hKb, nsK hns, ⟨mb, nsK hb, hbb⟩, let ⟨mc, h1, h2⟩ := hlim; ⟨mc, nsK h1, h2⟩⟩
  have e0 : Env0 P w K mg (hidT s₁.heap H) callerA [] s₁ H := ⟨rfl, hM, fun b o e => of_hidT e, Nat.le_of_eq (hidT_size _ _), trivial, fun b hb => absurd (show b ∈ ([] : List Addr) from hb) (by simp), hok, .of_eq hg⟩
  have hl : vals.length = ps.length := by rw [wellAll_len hwl]; exact hlen
  refine codeAny_mono ((F _ hKb (nsK hns) hbm').run callerA [] s₁ H ⟨vals, []⟩ vals (vals.map toV) _ _ hr e0 (hbind s₁ vals hl) hV (hsp H0 H _ hS more hat)) fun r s' x => ?_
  cases r with
  | error e => exact x.elim
  | ok fl =>
    cases fl with
    | next => exact False.elim x
    | brk => exact False.elim x
    | cont => exact False.elim x
    | ret u =>
      obtain ⟨v, H', os, bare, un, hok', r', q⟩ := x
      have kept : ∀ b o, b ≠ Pt → s₁.heap.get? b = some o → s'.heap.get? b = some o := fun b o hb e => by
        cases q2 : H b with
        | none => exact un.keep b o e q2 (by intro z; exact absurd (show b ∈ ([] : List Addr) from z) (by simp)) (by simp)
        | some u2 =>
          rcases look b u2 q2 with z | z
          · exact (hb z).elim
          · rcases only b with y | ⟨ob, u3, y⟩
            · rw [z] at y; cases y
            · have z2 := un.frzs b ob _ (more _ _ y)
              have e1 := (ok0 b _ y).1
              have e2 := (hok' b _ z2).1
              rw [e] at e1
              cases e1
              exact e2
      obtain ⟨grown, hgr⟩ := un.tbls Pt #[] hat
      have hP' : s'.heap.get? Pt = some { cls := .none, data := .fields (#[] ++ grown) } := hok' Pt _ hgr
      have KX' : K.In s'.heap := fun b o e => kept b o (fun z => by rw [z, hno] at e; cases e) (KX b o e)
      obtain ⟨as, hrd⟩ := Dw.reads (R := R) (cl := cl) hok' KX' d0 v u q r'
      refine ⟨u, as, rfl, hrd, ⟨fun b o e => ?_, fun b o e => ?_⟩, os, bare⟩
      · by_cases hb : b = Pt
        · subst hb
          rw [hP] at e
          cases e
          exact .inr (.inl ⟨(hcd.tab hP).isCodeTable, rfl, #[], grown, rfl, hP'⟩)
        · exact .inl (kept b o hb e)
      · by_cases hb : b = Pt
        · subst hb; exact ⟨_, hP'⟩
        · exact ⟨o, kept b o hb e⟩
/-- the goal that k_headS leaves, where the def named x makes lambdas -/
theorem walk_tab {r : OpenSpec} {k : Nat} {q : Program} {loose : List Str} {XP : (Str → Option Value) → Heap → Prop} {YP : World → Heap → Prop} {d : DefRec} {K : Params → PySem.W.Frag} {ps : List Str} {c Pt : Addr} {x : Str} {sp : PySem.W.Frag → Sp}
    (hwell : r.wellSaid = true) (hlen : r.args.length = ps.length) (hr : Room k callerA) (hY : ∀ (w : World) (h : Heap), YP w h → (K w.params).In h)
    (hrec : ((recsOf q).find? (fun e => e.name == x)).isSome = true) (htab : ∀ w : World, PySem.W.tabIn (K w.params) x = some (c, Pt)) (hno : ∀ w : World, (K w.params).lookup Pt = none)
    (F : ∀ (w : World) (mg : Str → Option Value) (fa : Addr) (h : Heap), (K w.params).In h → h.Ns mainGlobals mg → mg d.name = some (.ref fa) →
      ∃ fd : FuncData, (∀ (s : Shared) (us : List Value), us.length = ps.length → BindsTo s fd ⟨us, []⟩ (ps.zip us)) ∧
        ∀ base : Heap, (K w.params).In base → base.Ns mainGlobals mg → base.BuiltinsAt mg Pt → FnOk r.prog w (K w.params) mg base CX0 k fa fd ps (sp (K w.params)))
    (hsp : ∀ (K : PySem.W.Frag) (H H' : Hp) (xs : List V) (a : Codec.denoteAll r.args), Codec.withinAll r.args a = true → Codec.app r.args r.asked a = true → DwAll K H xs (Codec.encAll r.args a) → Same H H' → H' Pt = some (.tbl #[]) →
      sp K xs H' (fun v H' => Dw K H' v (r.ret.enc (Codec.app r.args r.f a))) fun _ _ _ => False) :
    PySem.W.WalkOS q loose XP YP r d [] (fun f vs => PySem.call f vs) := by
  intro w s_0 s₁ mg mb G Y fa o pm cd doc dV kV ho hd hcd hD hmg hg args vals as hpre hlay hrd hwl hlo
  obtain ⟨a, e1, e2⟩ := PySem.W.os_pre_some hpre
  obtain ⟨e3, hwi⟩ := Codec.encAll_of_decAll r.args args a e1
  subst e3
  have KX := hY w _ Y
  obtain ⟨dr, hdr⟩ := Option.isSome_iff_exists.mp hrec
  obtain ⟨tc, tP⟩ := PySem.W.tab_of G.T KX hdr (htab w)
  obtain ⟨fd, hb, hF⟩ := F w mg fa _ KX G.T.g hmg
  have hbm : s₁.heap.BuiltinsAt mg Pt := by
    obtain ⟨bm, ob, b1, b2, b3, b4, b5, b6⟩ := G.T.bmain
    refine ⟨bm, ob, b1, b2, fun z => ?_, fun z => ?_, b3, b4, b5, b6⟩
    · obtain ⟨o', es, ep, g1, g2, _⟩ := G.T.g
      rw [z, g1] at b3; cases b3; rw [b6] at g2; cases g2
    · rw [z, tP] at b3; cases b3; cases b6
  refine PySem.W.enter_call (codeAny_mono (call_tab (R := []) (cl := classAt s_0.heap) (d0 := r.ret.enc (Codec.app r.args r.f a)) KX G.T.g G.T.b G.T.builtins G.T.nolimit hg hwl (pl_encAll _ _) (layable_weight hlay) hr tP tc (hno w) hbm hF hb (by rw [encAll_len]; exact hlen)
    (fun H H' xs h1 h2 h3 => hsp (K w.params) H H' xs a hwi e2 h1 h2 h3)) fun r' s' hq => ?_)
  obtain ⟨u, as', rfl, h1, h2, h3, h4⟩ := hq
  exact ⟨.inl ⟨u, _, as', rfl, fun _ => rfl, h1, (OpenSpec.post_iff hwell hwi _ _).mpr rfl, fun z => Bool.noConfusion (show false = true from z)⟩, h2, h3, h4⟩
end L2
end

section
set_option Elab.async false
set_option linter.all false
set_option maxRecDepth 100000
set_option maxHeartbeats 2000000
namespace W
open PySem PySem.Spec PyProof.Rows L2
/-! ### the text by places -/
def top (i : Nat) : Stmt := PySem.Challenge.pw_textends_s01_answers.main.body.getD i (.Pass ⟨0, 0, 0, 0⟩)
abbrev sPlaces : Stmt := top 1
abbrev sRanks : Stmt := top 2
abbrev sPair : Stmt := top 3
abbrev sOrder : Stmt := top 4
abbrev sNumbers : Stmt := top 5
abbrev sShare : Stmt := top 6
/-- where the lambda stands -/
def lamPos : Pos := match defBody sPlaces with
  | [.Return (some (.Call _ _ [⟨_, .Lambda _ _ _ p, _⟩] _)) _] => p
  | _ => ⟨0, 0, 0, 0⟩
def lamQual : Str := "places_by.<locals>.<lambda>"
abbrev Tb (P : Addr) (H : Hp) : Prop := TabOk P lamPos lamQual H
abbrev Gr (P : Addr) (H H' : Hp) : Prop := Grow P lamPos lamQual H H'
def nv (o : List Nat) : List V := o.map fun (i : Nat) => V.int i
/-- the facts of the module -/
structure Txt (K : PySem.W.Frag) (mg : Str → Option Value) (base : Heap) (c P : Addr) : Prop where
  hd : PySem.W.CodeHd base c P
  bl : base.BuiltinsAt mg P
  sorted : mg "sorted" = none
  range : mg "range" = none
  len : mg "len" = none
  max : mg "max" = none
  min : mg "min" = none
/-! ### promises -/
def spPlaces (K : PySem.W.Frag) (P : Addr) : Sp := fun vs H Q _ => ∃ (a : Addr) (kz : List Int), vs = [.ref a] ∧ SqL K H a (kz.map V.int) ∧ kz.length ≤ 2 ^ 24 ∧ Tb P H ∧
  ∀ (p : Addr) (o : List Nat) (H' : Hp), TE.ByKeys kz o → Gr P H H' → H p = none → H' p = some (.lst (nv o)) → Q (.ref p) H'
section
variable {P : Program} {w : World} {K : PySem.W.Frag} {mg : Str → Option Value} {base : Heap} {c Pt : Addr}
/-- a def's rule, its code named -/
theorem okC {x qual : Str} {st : Stmt} {f : Addr} {fd : FuncData} {N ps : List Str} {k : Nat} {sp : Sp} (F : Fun K x qual st f fd) (S : FnScope N ps (defScope st)) (len : ∀ vs H Q E, sp vs H Q E → vs.length = ps.length)
    (hbody : ∀ (A : Around) (outer : List Env) (s : Shared) (H : Hp) (vs : List V) (Q : VK) (E : XK), Room k (A.deeper (envOfC qual (defScope st) s.heap.objs.size f fd.code)) → sp vs H Q E →
      ∃ t, PSs (cxOf CX0 P w K mg base N qual (defScope st) f fd.code A outer s H E).nox (defBody st) t ∧ t { nx := fun _ H' => Q .non H', rt := Q } (start N vs) H) : FnOk P w K mg base CX0 (k + 1) f fd ps sp := by
  obtain ⟨oc, od, kV, doc, pm, an, cdv, ct, osl, rfl, lk, hcd⟩ := F.ex
  refine fn_of lk hcd S len fun A outer s H vs Q E hr hsp => ?_
  obtain ⟨t, h, q⟩ := hbody A outer s H vs Q E hr hsp
  exact ⟨t, h.nox, q⟩
theorem scP : FnScope ["keys"] ["keys"] (defScope sPlaces) := ⟨rfl, rfl, rfl, by decide +kernel, rfl, by decide +kernel, by decide +kernel⟩
theorem ok_places {f : Addr} {fd : FuncData} (F : Fun K "places_by" "places_by" sPlaces f fd) (hcd : fd.code = .ref c) (T : Txt K mg base c Pt) : FnOk P w K mg base CX0 1 f fd ["keys"] (spPlaces K Pt) := by
  refine okC F scP (fun vs H Q E h => ?_) (fun A outer s H vs Q E hr h => ?_)
  · obtain ⟨a, kz, rfl, _⟩ := h
    rfl
  · obtain ⟨a, kz, rfl, hS, hz, hT, k⟩ := h
    refine ⟨_, pss_one (ps_ret (pe_sortBy (X := (cxOf CX0 P w K mg base ["keys"] "places_by" (defScope sPlaces) f fd.code A outer s H E).nox) (c := c) (P := Pt) (cK := s.heap.objs.size + 1) rfl hr hcd T.hd T.bl rfl rfl rfl rfl rfl rfl T.sorted rfl T.range rfl T.len (fun _ _ _ _ => rfl) rfl rfl rfl rfl rfl (by decide +kernel))), ?_⟩
    exact ⟨a, kz, rfl, hS, hz, hT, fun p o H' h1 h2 h3 h4 => k p o H' ⟨h1.1, h1.2.1, h1.2.2⟩ h2 h3 h4⟩
end
end W
end

section
set_option Elab.async false
set_option linter.all false
set_option maxRecDepth 100000
set_option maxHeartbeats 2000000
namespace W
open PySem PySem.Spec PyProof.Rows L2
/-! ### small helps -/
theorem same_refl (H : Hp) : Same H H := fun _ _ e => e
theorem same_upd {H : Hp} {a : Addr} {o : HO} (h : H a = none) : Same H (upd H a o) := fun b u e => by rw [upd_ne (ne_of_none e h)]; exact e
theorem same_upd' {H H' : Hp} {a : Addr} {o : HO} (s : Same H H') (h : H a = none) : Same H (upd H' a o) := fun b u e => by rw [upd_ne (ne_of_none e h)]; exact s b u e
theorem Same.none_of {H H' : Hp} (s : Same H H') {a : Addr} (h : H' a = none) : H a = none := s.free h
theorem ixN_nat {n j : Nat} (h : j < n) : ixN n (j : Int) = some j := by
  unfold ixN
  rw [if_pos (by omega), if_pos (by omega)]; rfl
theorem ixN_of {n j : Nat} {z : Int} (e : z = (j : Int)) (h : j < n) : ixN n z = some j := by rw [e]; exact ixN_nat h
theorem nv_get {o : List Nat} {k : Nat} (h : k < o.length) : (nv o)[k]? = some (V.int (o.getD k 0 : Nat)) := by
  unfold nv
  rw [List.getElem?_map, List.getElem?_eq_getElem h, List.getD_eq_getElem?_getD, List.getElem?_eq_getElem h]; rfl
theorem kv_get {kz : List Int} {k : Nat} (h : k < kz.length) : (kz.map V.int)[k]? = some (V.int (kz.getD k 0)) := by
  rw [List.getElem?_map, List.getElem?_eq_getElem h, List.getD_eq_getElem?_getD, List.getElem?_eq_getElem h]; rfl
theorem nv_set (o : List Nat) (k x : Nat) : (nv o).set k (V.int x) = nv (o.set k x) := by unfold nv; rw [List.map_set]
theorem nv_len (o : List Nat) : (nv o).length = o.length := by unfold nv; rw [List.length_map]
theorem nv_snoc (o : List Nat) (x : Nat) : nv o ++ [V.int x] = nv (o ++ [x]) := by unfold nv; rw [List.map_append]; rfl
theorem nv_rep (n : Nat) : (List.replicate n [V.int 0]).flatten = nv (List.replicate n 0) := by
  unfold nv
  rw [List.flatten_replicate_singleton, List.map_replicate]; rfl
theorem nat_at {o : List Nat} {z : Int} {k : Nat} (e : z = (k : Int)) (h : k < o.length) : atI (nv o) z = some (V.int (o.getD k 0 : Nat)) := at_of e (nv_get h)
theorem key_at {kz : List Int} {z : Int} {k : Nat} (e : z = (k : Int)) (h : k < kz.length) : atI (kz.map V.int) z = some (V.int (kz.getD k 0)) := at_of e (kv_get h)
theorem getD_set {o : List Nat} {k j x : Nat} (h : k < o.length) : (o.set k x).getD j 0 = if j = k then x else o.getD j 0 := by
  rw [List.getD_eq_getElem?_getD, List.getD_eq_getElem?_getD, List.getElem?_set]
  by_cases e : k = j
  · subst e; simp [h]
  · rw [if_neg e, if_neg (fun z => e z.symm)]
theorem nv_ints (o : List Nat) : nv o = (TE.ofNats o).map V.int := by unfold nv TE.ofNats; rw [List.map_map]; rfl
theorem byKeys_nodup {kz o} (b : TE.ByKeys kz o) {i j : Nat} (hi : i < kz.length) (hj : j < kz.length) (e : o.getD i 0 = o.getD j 0) : i = j := by
  have nd : o.Nodup := b.perm.nodup_iff.mpr List.nodup_range
  have h1 : i < o.length := by rw [b.length]; exact hi
  have h2 : j < o.length := by rw [b.length]; exact hj
  rw [List.getD_eq_getElem?_getD, List.getD_eq_getElem?_getD, List.getElem?_eq_getElem h1, List.getElem?_eq_getElem h2] at e
  exact (List.getElem_inj nd).mp e
theorem dec_ne {i j : Int} : (!decide (V.int i = V.int j)) = decide (i ≠ j) := by
  by_cases h : i = j
  · subst h; simp
  · have : ¬ V.int i = V.int j := fun z => h (V.int.inj z)
    rw [decide_eq_false this, decide_eq_true h]; rfl
/-! ### ranks_by -/
def spRanks (K : PySem.W.Frag) : Sp := fun vs H Q _ => ∃ (a b : Addr) (kz : List Int) (o : List Nat), vs = [.ref a, .ref b] ∧ SqL K H a (kz.map V.int) ∧ SqL K H b (nv o) ∧ TE.ByKeys kz o ∧ kz.length ≤ 2 ^ 20 ∧
  ∀ (p : Addr) (R : List Nat) (H' : Hp), TE.Ranked kz o R → Same H H' → H p = none → H' p = some (.lst (nv R)) → Q (.ref p) H'
section
variable {P : Program} {w : World} {K : PySem.W.Frag} {mg : Str → Option Value} {base : Heap} {c Pt : Addr}
theorem scR : FnScope ["keys", "order", "ranks", "rank", "k"] ["keys", "order"] (defScope sRanks) := ⟨rfl, rfl, rfl, by decide +kernel, rfl, by decide +kernel, by decide +kernel⟩
theorem ok_ranks {f : Addr} {fd : FuncData} (F : Fun K "ranks_by" "ranks_by" sRanks f fd) (T : Txt K mg base c Pt) : FnOk P w K mg base CX0 1 f fd ["keys", "order"] (spRanks K) := by
  refine F.ok scR (fun vs H Q E h => ?_) (fun cdv A outer s H vs Q E hr h => ?_)
  · obtain ⟨a, b, kz, o, rfl, _⟩ := h
    rfl
  · obtain ⟨a, b, kz, o, rfl, hA, hB, bk, hz, k⟩ := h
    refine ⟨_, pss_cons (ps_set (i := 2) scR.nd rfl (Or.inl rfl) (pe_op op_rep (pe_lst (pa_cons pe_int pa_nil)) (pe_callB call_len_seq rfl T.len PySem.boot_len (pa_cons (pv 1) pa_nil))))
      (pss_cons (ps_set (i := 3) scR.nd rfl (Or.inl rfl) pe_int)
      (pss_cons (ps_for PassesOwn.never rfl (pi_range2 rfl T.range (pa_cons pe_int (pa_cons (pe_callB call_len_seq rfl T.len PySem.boot_len (pa_cons (pv 1) pa_nil)) pa_nil))) (pg_name (i := 4) scR.nd rfl (Or.inl rfl))
        (pss_cons (ps_if (pt_cmpR op_ne (pe_ix ix_list (pv 0) (pe_ix ix_list (pv 1) (pv 4) (fun _ _ => rfl)) (fun _ _ => rfl)) (pe_ix ix_list (pv 0) (pe_ix ix_list (pv 1) (pe_op op_sub (pv 4) pe_int) (fun _ _ => rfl)) (fun _ _ => rfl)) (nomark _))
            (pss_one (ps_aug (i := 3) scR.nd rfl (Or.inl rfl) pe_int ip_add)) pss_nil)
        (pss_one (ps_asg (pv 3) (pg_sub (pv 2) (pe_ix ix_list (pv 1) (pv 4) (fun _ _ => rfl)) set_list)))))
      (pss_one (ps_ret (pv 2))))), ?_⟩
    have hlen : o.length = kz.length := bk.length
    -- ranks = [0] * len(order); rank = 0
    refine ⟨by show 1 ≤ sizeLine; decide, fun l hl => ⟨.ref b, rfl, b, _, rfl, .inl ((same_upd hl).seq hB), l, _, _, rfl, rfl, upd_same, ?_, ?_, ?_, fun q hq => ?_⟩⟩
    · rw [nv_len]; omega
    · rw [nv_len]; omega
    · rw [nv_len, sizeLine_eq]; simp; omega
    have hq0 : H q = none := (same_upd hl).free hq
    rw [nv_len, Int.toNat_natCast, nv_rep]
    have S1 : Same H (upd (upd H l (.lst [.int 0])) q (.lst (nv (List.replicate o.length 0)))) := (same_upd hl).trans (same_upd hq)
    -- for k in range(1, len(order))
    refine ⟨_, rfl, _, _, rfl, .inl (S1.seq hB), 1, (o.length : Int), by rw [nv_len], ⟨by omega, by omega, by omega, by omega⟩, ?_⟩
    refine for_range (lo := 1) (n := ((o.length : Int) - 1).toNat) (fun i σ H' => ∃ (v : Option V) (R : List Nat), σ = [some (.ref a), some (.ref b), some (.ref q), some (.int (TE.rk kz o i : Nat)), v] ∧ Same H H' ∧ H' q = some (.lst (nv R)) ∧ R.length = kz.length ∧
        ∀ j, j ≤ i → j < kz.length → R.getD (o.getD j 0) 0 = TE.rk kz o j)
      ⟨none, List.replicate o.length 0, rfl, S1, upd_same, by rw [List.length_replicate]; exact hlen, fun j hj hj2 => ?_⟩ ?_ ?_
    · have e : j = 0 := by omega
      subst e
      rw [List.getD_eq_getElem?_getD, List.getElem?_replicate]
      split <;> rfl
    · rintro i σ H' hi ⟨v, R, rfl, S2, hR, hRl, hRk⟩
      have hk : 1 + i < kz.length := by omega
      have lo1 := bk.lt (k := 1 + i) hk
      have lo2 := bk.lt (k := i) (by omega)
      have eadd : (1 : Int) + (i : Nat) = ((1 + i : Nat) : Int) := by omega
      refine ⟨_, rfl, _, rfl, _, rfl, b, _, _, _, rfl, rfl, S2.seq hB, nat_at eadd (by omega), a, _, _, _, rfl, rfl, S2.seq hA, key_at rfl lo1,
        _, rfl, _, rfl, _, rfl, _, _, rfl, rfl, b, _, _, _, rfl, rfl, S2.seq hB, nat_at (k := i) (by omega) (by omega), a, _, _, _, rfl, rfl, S2.seq hA, key_at rfl lo2, rfl, _, rfl, ?_⟩
      rw [dec_ne]
      have fin : ∀ (rr : Nat), rr = TE.rk kz o (i + 1) → ∃ (v : Option V) (R' : List Nat), [some (.ref a), some (.ref b), some (.ref q), some (.int (rr : Nat)), some (.int (1 + (i : Nat)))] = [some (.ref a), some (.ref b), some (.ref q), some (.int (TE.rk kz o (i + 1) : Nat)), v] ∧
          Same H (upd H' q (.lst ((nv R).set (o.getD (1 + i) 0) (V.int (rr : Nat))))) ∧ (upd H' q (.lst ((nv R).set (o.getD (1 + i) 0) (V.int (rr : Nat))))) q = some (.lst (nv R')) ∧ R'.length = kz.length ∧ (∀ j, j ≤ i + 1 → j < kz.length → R'.getD (o.getD j 0) 0 = TE.rk kz o j) := by
        intro rr hrr
        refine ⟨some (.int (1 + (i : Nat))), R.set (o.getD (1 + i) 0) rr, by rw [hrr], same_upd' S2 hq0, by rw [upd_same, nv_set], by rw [List.length_set]; exact hRl, fun j hj hj2 => ?_⟩
        rw [getD_set (by rw [hRl]; exact lo1)]
        by_cases e : j = 1 + i
        · subst e
          rw [if_pos rfl, hrr, Nat.add_comm 1 i]
        · rw [if_neg (fun z => e (byKeys_nodup bk hj2 hk z)), hRk j (by omega) hj2]
      have rks : TE.rk kz o (i + 1) = if kz.getD (o.getD (i + 1) 0) 0 ≠ kz.getD (o.getD i 0) 0 then TE.rk kz o i + 1 else TE.rk kz o i := rfl
      refine ite2 (fun hc => ?_) (fun hc => ?_)
      · have hc := of_decide_eq_true hc
        refine ⟨_, rfl, _, _, rfl, rfl, ?_⟩
        refine ⟨_, rfl, _, rfl, _, rfl, _, rfl, b, _, _, _, rfl, rfl, S2.seq hB, nat_at eadd (by omega), q, _, _, _, rfl, rfl, hR, ixN_nat (by rw [nv_len, hRl]; exact lo1), ?_⟩
        exact fin (TE.rk kz o i + 1) (by rw [rks, if_pos (by rw [Nat.add_comm i 1]; exact hc)])
      · have hc : ¬ _ := fun z => hc (decide_eq_true z)
        refine ⟨_, rfl, _, rfl, _, rfl, _, rfl, b, _, _, _, rfl, rfl, S2.seq hB, nat_at eadd (by omega), q, _, _, _, rfl, rfl, hR, ixN_nat (by rw [nv_len, hRl]; exact lo1), ?_⟩
        exact fin (TE.rk kz o i) (by rw [rks, if_neg (by rw [Nat.add_comm i 1]; exact hc)])
    · rintro σ H' ⟨v, R, rfl, S2, hR, hRl, hRk⟩
      refine ⟨_, rfl, ?_⟩
      exact k q R H' ⟨hRl, fun j hj => hRk j (by omega) hj⟩ S2 hq0 hR
end
end W
end

section
set_option Elab.async false
set_option linter.all false
set_option maxRecDepth 100000
set_option maxHeartbeats 2000000
namespace W
open PySem PySem.Spec PyProof.Rows L2
/-! ### a def that is called -/
def Cal (P : Program) (w : World) (K : PySem.W.Frag) (mg : Str → Option Value) (base : Heap) (k : Nat) (x : Str) (ps : List Str) (sp : Sp) : Prop :=
  ∃ (f : Addr) (fd : FuncData), mg x = some (.ref f) ∧ PySem.W.keepIn K (.ref f) = true ∧ Binds K fd ps [] ∧ FnOk P w K mg base CX0 k f fd ps sp
theorem Cal.mono {P : Program} {w : World} {K : PySem.W.Frag} {mg : Str → Option Value} {base : Heap} {j k : Nat} {x : Str} {ps : List Str} {sp : Sp} (h : Cal P w K mg base j x ps sp) (hk : j ≤ k) : Cal P w K mg base k x ps sp :=
  let ⟨f, fd, a, b, c, d⟩ := h; ⟨f, fd, a, b, c, d.mono hk⟩
/-! ### heaps that grow -/
theorem tb_ne {P : Addr} {H : Hp} (T : Tb P H) {a : Addr} {o : HO} (h : H a = some o) (hn : ∀ ps, o ≠ .tbl ps) : a ≠ P := fun z => by
  subst z
  rcases T with T | ⟨_, T, _⟩ <;> rw [h] at T <;> cases T <;> exact hn _ rfl
theorem gr_seq {K : PySem.W.Frag} {P : Addr} {H H' : Hp} {a : Addr} {xs : List V} (T : Tb P H) (g : Gr P H H') (h : SqL K H a xs) : SqL K H' a xs := by
  rcases h with (h | ⟨o, h⟩) | h
  · exact .inl (.inl (g.1 _ _ h (tb_ne T h fun _ z => by cases z)))
  · exact .inl (.inr ⟨o, g.1 _ _ h (tb_ne T h fun _ z => by cases z)⟩)
  · exact .inr h
theorem gr_lst {P : Addr} {H H' : Hp} {a : Addr} {xs : List V} (T : Tb P H) (g : Gr P H H') (h : H a = some (.lst xs)) : H' a = some (.lst xs) := g.1 _ _ h (tb_ne T h fun _ z => by cases z)
theorem gr_trans {P : Addr} {H H1 H2 : Hp} (a : Gr P H H1) (b : Gr P H1 H2) : Gr P H H2 := ⟨fun x u e hx => b.1 x u (a.1 x u e hx) hx, b.2⟩
theorem gr_same {P : Addr} {H H' : Hp} (T : Tb P H) (s : Same H H') : Gr P H H' := by
  refine ⟨fun b u e _ => s b u e, ?_⟩
  rcases T with T | ⟨c, T, Tc⟩
  · exact .inl (s _ _ T)
  · exact .inr ⟨c, s _ _ T, s _ _ Tc⟩
theorem gr_none {P : Addr} {H H' : Hp} (T : Tb P H) (g : Gr P H H') {a : Addr} (h : H' a = none) : H a = none := by
  cases q : H a with
  | none => rfl
  | some u =>
    by_cases e : a = P
    · subst e
      rcases g.2 with T | ⟨_, T, _⟩ <;> rw [h] at T <;> cases T
    · have := g.1 a u q e
      rw [h] at this; cases this
theorem neg_at {o : List Nat} (h : 0 < o.length) : atI (nv o) (-1) = some (V.int (o.getD (o.length - 1) 0 : Nat)) := by
  unfold atI ixN
  rw [nv_len, if_neg (by omega), if_pos (by omega), show ((-1 : Int) + (o.length : Nat)).toNat = o.length - 1 by omega]
  exact nv_get (by omega)
/-! ### pair_keys -/
def spPair (K : PySem.W.Frag) : Sp := fun vs H Q _ => ∃ (a : Addr) (R : List Nat) (wd : Nat), vs = [.ref a, .int wd] ∧ SqL K H a (nv R) ∧ R.length ≤ 2 ^ 20 ∧ (∀ p, p < R.length → R.getD p 0 < R.length) ∧
  ∀ (p : Addr) (H' : Hp), Same H H' → H p = none → H' p = some (.lst ((TE.pairKeys R wd).map V.int)) → Q (.ref p) H'
section
variable {P : Program} {w : World} {K : PySem.W.Frag} {mg : Str → Option Value} {base : Heap} {c Pt : Addr}
theorem scK : FnScope ["ranks", "width", "n", "keys", "place", "behind"] ["ranks", "width"] (defScope sPair) := ⟨rfl, rfl, rfl, by decide +kernel, rfl, by decide +kernel, by decide +kernel⟩
theorem take_snoc' {α : Type} {l : List α} {i : Nat} {x : α} (h : l[i]? = some x) : l.take (i + 1) = l.take i ++ [x] := by
  rw [List.take_add_one, h]; rfl
theorem ok_pair {f : Addr} {fd : FuncData} (F : Fun K "pair_keys" "pair_keys" sPair f fd) (T : Txt K mg base c Pt) : FnOk P w K mg base CX0 1 f fd ["ranks", "width"] (spPair K) := by
  refine F.ok scK (fun vs H Q E h => ?_) (fun cdv A outer s H vs Q E hr h => ?_)
  · obtain ⟨a, R, wd, rfl, _⟩ := h
    rfl
  · obtain ⟨a, R, wd, rfl, hA, hz, hlt, k⟩ := h
    refine ⟨_, pss_cons (ps_set (i := 2) scK.nd rfl (Or.inl rfl) (pe_callB call_len_seq rfl T.len PySem.boot_len (pa_cons (pv 0) pa_nil)))
      (pss_cons (ps_set (i := 3) scK.nd rfl (Or.inl rfl) (pe_lst pa_nil))
      (pss_cons (ps_for PassesOwn.never rfl (pi_range1 rfl T.range (pa_cons (pv 2) pa_nil)) (pg_name (i := 4) scK.nd rfl (Or.inl rfl))
        (pss_cons (ps_set (i := 5) scK.nd rfl (Or.inl rfl) (pe_ifExp (pt_cmpR op_lt (pe_op op_add (pv 4) (pv 1)) (pv 2) (nomark _)) (pe_op op_add (pe_ix ix_list (pv 0) (pe_op op_add (pv 4) (pv 1)) (fun _ _ => rfl)) pe_int) pe_int))
        (pss_one (ps_expr (pe_bm PySem.F.plainAttrs_list PySem.F.slot_list_append PySem.F.type_list_append mt_append (pv 3) (pa_cons (pe_op op_add (pe_op op_mul (pe_ix ix_list (pv 0) (pv 4) (fun _ _ => rfl)) (pe_op op_add (pv 2) pe_int)) (pv 5)) pa_nil))))))
      (pss_one (ps_ret (pv 3))))), ?_⟩
    refine ⟨_, rfl, a, _, rfl, .inl hA, ⟨Nat.zero_le _, fun q hq => ?_⟩⟩
    have S1 : Same H (upd H q (.lst [])) := same_upd hq
    refine ⟨_, rfl, (R.length : Int), by rw [nv_len], by omega, by omega, ?_⟩
    have hpl := TE.pairKeys_length R wd
    refine for_range (lo := 0) (n := ((R.length : Nat) : Int).toNat) (fun i σ H' => ∃ (v v' : Option V), σ = [some (.ref a), some (.int wd), some (.int (R.length : Nat)), some (.ref q), v, v'] ∧ Same H H' ∧ H' q = some (.lst (((TE.pairKeys R wd).take i).map V.int)))
      ⟨none, none, by rw [nv_len]; rfl, S1, upd_same⟩ ?_ ?_
    · rintro i σ H' hi ⟨v, v', rfl, S2, hq'⟩
      have hi' : i < R.length := by omega
      have step : (TE.pairKeys R wd)[i]? = some (TE.pairKey R wd i) := by
        unfold TE.pairKeys
        rw [List.getElem?_map, List.getElem?_range hi']; rfl
      have fin : ∀ (z : Int), z = TE.sec R wd i → ∃ (v v' : Option V), [some (V.ref a), some (.int wd), some (.int (R.length : Nat)), some (.ref q), some (.int (0 + (i : Nat))), some (.int z)] = [some (.ref a), some (.int wd), some (.int (R.length : Nat)), some (.ref q), v, v'] ∧
          Same H (upd H' q (.lst (((TE.pairKeys R wd).take i).map V.int ++ [V.int ((R.getD i 0 : Nat) * ((R.length : Nat) + 1) + z)]))) ∧ (upd H' q (.lst (((TE.pairKeys R wd).take i).map V.int ++ [V.int ((R.getD i 0 : Nat) * ((R.length : Nat) + 1) + z)]))) q = some (.lst (((TE.pairKeys R wd).take (i + 1)).map V.int)) := by
        intro z hz
        refine ⟨_, _, rfl, same_upd' S2 hq, ?_⟩
        rw [upd_same, take_snoc' step, List.map_append, hz]
        rfl
      have hR := hlt i hi'
      have app : ∀ (z : Int), z = TE.sec R wd i → _ := fun z hz => (⟨_, rfl, .inl ⟨rfl, _, SqL.of hq'⟩, _, rfl, _, rfl, a, _, _, _, rfl, rfl, S2.seq hA, nat_at (k := i) (by omega) hi', _, rfl, _, _, rfl, rfl, _, _, rfl, rfl, .inl ⟨by omega, by omega⟩, _, rfl, _, _, rfl, rfl, q, _, _, rfl, rfl, hq',
          (by rw [List.length_map, List.length_take, sizeLine_eq]; omega), fin z hz⟩ : (tDrop (tBM K "list" rAppend (tVar 3) (tCons (tOp (rI0 fun i j => .int (i + j)) (tOp (rI CMul fun i j => .int (i * j)) (tOp (rIxL K) (tVar 0) (tVar 4)) (tOp (rI0 fun i j => .int (i + j)) (tVar 2) (tC (.int 1)))) (tVar 5)) tNil))) { nx := fun σ H' => ∃ (v v' : Option V), σ = [some (.ref a), some (.int wd), some (.int (R.length : Nat)), some (.ref q), v, v'] ∧ Same H H' ∧ H' q = some (.lst (((TE.pairKeys R wd).take (i + 1)).map V.int)), rt := Q } [some (V.ref a), some (.int wd), some (.int (R.length : Nat)), some (.ref q), some (.int (0 + (i : Nat))), some (.int z)] H')
      refine ⟨_, rfl, _, rfl, _, _, rfl, rfl, _, rfl, _, _, rfl, rfl, _, rfl, ?_⟩
      refine ite2 (fun hc => ?_) (fun hc => ?_)
      · have hc : (0 : Int) + (i : Nat) + (wd : Nat) < (R.length : Nat) := of_decide_eq_true hc
        refine ⟨_, rfl, _, rfl, _, rfl, _, _, rfl, rfl, a, _, _, _, rfl, rfl, S2.seq hA, nat_at (k := i + wd) (by omega) (by omega), _, _, rfl, rfl, ?_⟩
        exact app _ (by unfold TE.sec; rw [if_pos (by omega)])
      · have hc : ¬ (0 : Int) + (i : Nat) + (wd : Nat) < (R.length : Nat) := fun z => hc (decide_eq_true z)
        exact app _ (by unfold TE.sec; rw [if_neg (by omega)])
    · rintro σ H' ⟨v, v', rfl, S2, hq'⟩
      refine ⟨_, rfl, ?_⟩
      rw [List.take_of_length_le (by rw [hpl]; omega)] at hq'
      exact k q H' S2 hq hq'
end
end W
end

section
set_option Elab.async false
set_option linter.all false
set_option maxRecDepth 100000
set_option maxHeartbeats 2000000
namespace W
open PySem PySem.Spec PyProof.Rows L2
/-! ### order_ends -/
def spOrder (K : PySem.W.Frag) (Pt : Addr) : Sp := fun vs H Q _ => ∃ (a : Addr) (s : List Nat), vs = [.ref a] ∧ SqL K H a (nv s) ∧ s ≠ [] ∧ s.length ≤ 2 ^ 20 ∧ Tb Pt H ∧
  ∀ (p : Addr) (o : List Nat) (H' : Hp), Sw16.Ends s o → Gr Pt H H' → H p = none → H' p = some (.lst (nv o)) → Q (.ref p) H'
section
variable {P : Program} {w : World} {K : PySem.W.Frag} {mg : Str → Option Value} {base : Heap} {c Pt : Addr}
theorem scO : FnScope ["text", "order", "ranks", "width", "keys"] ["text"] (defScope sOrder) := ⟨rfl, rfl, rfl, by decide +kernel, rfl, by decide +kernel, by decide +kernel⟩
theorem ok_order {f : Addr} {fd : FuncData} (F : Fun K "order_ends" "order_ends" sOrder f fd) (T : Txt K mg base c Pt) (C1 : Cal P w K mg base 1 "places_by" ["keys"] (spPlaces K Pt)) (C2 : Cal P w K mg base 1 "ranks_by" ["keys", "order"] (spRanks K))
    (C3 : Cal P w K mg base 1 "pair_keys" ["ranks", "width"] (spPair K)) : FnOk P w K mg base CX0 2 f fd ["text"] (spOrder K Pt) := by
  obtain ⟨f1, fd1, mg1, kp1, b1, G1⟩ := C1
  obtain ⟨f2, fd2, mg2, kp2, b2, G2⟩ := C2
  obtain ⟨f3, fd3, mg3, kp3, b3, G3⟩ := C3
  refine F.ok scO (fun vs H Q E h => ?_) (fun cdv A outer s H vs Q E hr h => ?_)
  · obtain ⟨a, t, rfl, _⟩ := h
    rfl
  · obtain ⟨a, t, rfl, hA, hne, hz, hT, k⟩ := h
    refine ⟨_, pss_cons (ps_set (i := 1) scO.nd rfl (Or.inl rfl) (pe_call G1 hr rfl mg1 kp1 b1 .nil pass0 (pa_cons (pv 0) pa_nil)))
      (pss_cons (ps_set (i := 2) scO.nd rfl (Or.inl rfl) (pe_call G2 hr rfl mg2 kp2 b2 .nil pass0 (pa_cons (pv 0) (pa_cons (pv 1) pa_nil))))
      (pss_cons (ps_set (i := 3) scO.nd rfl (Or.inl rfl) pe_int)
      (pss_cons (ps_while PassesOwn.never (pt_cmpR op_lt (pe_ix ix_list (pv 2) (pe_ix ix_list (pv 1) (pe_un un_neg pe_int) (fun _ _ => rfl)) (fun _ _ => rfl)) (pe_op op_sub (pe_callB call_len_seq rfl T.len PySem.boot_len (pa_cons (pv 0) pa_nil)) pe_int) (nomark _))
        (pss_cons (ps_set (i := 4) scO.nd rfl (Or.inl rfl) (pe_call G3 hr rfl mg3 kp3 b3 .nil pass0 (pa_cons (pv 2) (pa_cons (pv 3) pa_nil))))
        (pss_cons (ps_set (i := 1) scO.nd rfl (Or.inl rfl) (pe_call G1 hr rfl mg1 kp1 b1 .nil pass0 (pa_cons (pv 4) pa_nil)))
        (pss_cons (ps_set (i := 2) scO.nd rfl (Or.inl rfl) (pe_call G2 hr rfl mg2 kp2 b2 .nil pass0 (pa_cons (pv 4) (pa_cons (pv 1) pa_nil))))
        (pss_one (ps_set (i := 3) scO.nd rfl (Or.inl rfl) (pe_op op_mul (pv 3) pe_int)))))))
      (pss_one (ps_ret (pv 1)))))), ?_⟩
    have hn : 0 < t.length := List.length_pos_iff.mpr hne
    have t0 := TE.tells_text t
    -- order = places_by(text)
    refine ⟨_, rfl, a, TE.ofNats t, rfl, by rw [← nv_ints]; exact hA, by rw [TE.ofNats_length]; omega, hT, fun ob o H1 bk g1 n1 e1 => ?_⟩
    -- ranks = ranks_by(text, order)
    refine ⟨_, rfl, _, rfl, a, ob, TE.ofNats t, o, rfl, by rw [← nv_ints]; exact gr_seq hT g1 hA, SqL.of e1, bk, by rw [TE.ofNats_length]; omega, fun rb R H2 rk2 s2 n2 e2 => ?_⟩
    have T1 : Tb Pt H1 := g1.2
    have g2 : Gr Pt H H2 := gr_trans g1 (gr_same T1 s2)
    -- while
    refine ⟨fun m σ H' => ∃ (kz : List Int) (o R : List Nat) (wd : Nat) (ob rb : Addr) (v : Option V), m = t.length - wd ∧ σ = [some (.ref a), some (.ref ob), some (.ref rb), some (.int wd), v] ∧ Gr Pt H H' ∧ H ob = none ∧ H' ob = some (.lst (nv o)) ∧ H' rb = some (.lst (nv R)) ∧
        0 < wd ∧ TE.Tells t wd kz ∧ TE.ByKeys kz o ∧ TE.Ranked kz o R,
      ⟨_, TE.ofNats t, o, R, 1, ob, rb, none, rfl, rfl, g2, n1, s2 _ _ e1, e2, by omega, t0, bk, rk2⟩, ?_⟩
    rintro m σ H3 ⟨kz, o, R, wd, ob, rb, v, rfl, rfl, g3, n3, e3, e4, hw, tl, bk, rk3⟩
    have hkl : kz.length = t.length := tl.1
    have hol : o.length = t.length := bk.length.trans hkl
    have hlast := bk.lt (k := t.length - 1) (by omega)
    refine ⟨_, rfl, _, rfl, _, rfl, ob, _, _, _, rfl, rfl, SqL.of e3, neg_at (by omega), rb, _, _, _, rfl, rfl, SqL.of e4, nat_at rfl (by rw [hol, rk3.len]; exact hlast), _, rfl, _, _, rfl, .inl (gr_seq hT g3 hA), _, _, rfl, rfl, _, _, rfl, rfl, _, rfl, ?_⟩
    rw [nv_len, hol]
    refine ite2 (fun hc => ?_) (fun hc => ?_)
    · have hc : ((R.getD (o.getD (t.length - 1) 0) 0 : Nat) : Int) < (t.length : Nat) - 1 := of_decide_eq_true hc
      have hwn : wd < t.length := by
        apply Nat.lt_of_not_le
        intro hle
        have := TE.ranks_whole hne hle tl bk rk3
        omega
      refine ⟨fun σ' H' => ∃ (kz : List Int) (o R : List Nat) (ob rb : Addr) (v : Option V), σ' = [some (.ref a), some (.ref ob), some (.ref rb), some (.int ((wd + wd : Nat))), v] ∧ Gr Pt H H' ∧ H ob = none ∧ H' ob = some (.lst (nv o)) ∧ H' rb = some (.lst (nv R)) ∧
        TE.Tells t (wd + wd) kz ∧ TE.ByKeys kz o ∧ TE.Ranked kz o R, fun σ' H' ⟨kz, o, R, ob, rb, v, h1, h2, h3, h4, h5, h6, h7, h8⟩ => ⟨_, ?_, kz, o, R, wd + wd, ob, rb, v, rfl, h1, h2, h3, h4, h5, by omega, h6, h7, h8⟩, ?_⟩
      · omega
      -- keys = pair_keys(ranks, width)
      have hRl : R.length = t.length := rk3.len.trans hkl
      refine ⟨_, rfl, _, rfl, rb, R, wd, rfl, SqL.of e4, by omega, fun p hp => by have := rk3.lt bk (p := p) (by omega); omega, fun kb H4 s4 n4 e5 => ?_⟩
      have T3 : Tb Pt H3 := g3.2
      have g4 : Gr Pt H H4 := gr_trans g3 (gr_same T3 s4)
      have tl2 := TE.tells_pair hw tl bk rk3
      -- order = places_by(keys)
      refine ⟨_, rfl, kb, TE.pairKeys R wd, rfl, SqL.of e5, by rw [tl2.1]; omega, g4.2, fun ob2 o2 H5 bk2 g5 n5 e6 => ?_⟩
      have g5' : Gr Pt H H5 := gr_trans g4 g5
      have n5' : H ob2 = none := gr_none hT g4 n5
      -- ranks = ranks_by(keys, order)
      refine ⟨_, rfl, _, rfl, kb, ob2, TE.pairKeys R wd, o2, rfl, SqL.of (gr_lst g4.2 g5 e5), SqL.of e6, bk2, by rw [tl2.1]; omega, fun rb2 R2 H6 rk6 s6 n6 e7 => ?_⟩
      refine ⟨_, rfl, _, _, rfl, rfl, .inl ⟨by omega, by omega⟩, ?_⟩
      exact ⟨TE.pairKeys R wd, o2, R2, ob2, rb2, some (.ref kb), by
        show [some (V.ref a), some (V.ref ob2), some (V.ref rb2), some (V.int ((wd : Int) * 2)), some (V.ref kb)] = _
        rw [show ((wd : Nat) : Int) * 2 = ((wd + wd : Nat) : Int) by omega], gr_trans g5' (gr_same g5'.2 s6), n5', s6 _ _ e6, e7, tl2, bk2, rk6⟩
    · have hc : ¬ ((R.getD (o.getD (t.length - 1) 0) 0 : Nat) : Int) < (t.length : Nat) - 1 := fun z => hc (decide_eq_true z)
      refine ⟨_, rfl, ?_⟩
      exact k ob o H3 (TE.ends_of_ranks hne tl bk rk3 (by omega)) g3 n3 e3
end
/-! ### numbers_in_order -/
/-- N: by place the number in order -/
def Numbers (o N : List Nat) : Prop := N.length = o.length ∧ ∀ k, k < o.length → N.getD (o.getD k 0) 0 = k
def spNumbers (K : PySem.W.Frag) : Sp := fun vs H Q _ => ∃ (a : Addr) (o : List Nat), vs = [.ref a] ∧ SqL K H a (nv o) ∧ o.Perm (List.range o.length) ∧ o.length ≤ 2 ^ 20 ∧
  ∀ (p : Addr) (N : List Nat) (H' : Hp), Numbers o N → Same H H' → H p = none → H' p = some (.lst (nv N)) → Q (.ref p) H'
section
variable {P : Program} {w : World} {K : PySem.W.Frag} {mg : Str → Option Value} {base : Heap} {c Pt : Addr}
theorem scN : FnScope ["order", "numbers", "k"] ["order"] (defScope sNumbers) := ⟨rfl, rfl, rfl, by decide +kernel, rfl, by decide +kernel, by decide +kernel⟩
theorem ok_numbers {f : Addr} {fd : FuncData} (F : Fun K "numbers_in_order" "numbers_in_order" sNumbers f fd) (T : Txt K mg base c Pt) : FnOk P w K mg base CX0 1 f fd ["order"] (spNumbers K) := by
  refine F.ok scN (fun vs H Q E h => ?_) (fun cdv A outer s H vs Q E hr h => ?_)
  · obtain ⟨a, o, rfl, _⟩ := h
    rfl
  · obtain ⟨a, o, rfl, hA, he, hz, k⟩ := h
    refine ⟨_, pss_cons (ps_set (i := 1) scN.nd rfl (Or.inl rfl) (pe_op op_rep (pe_lst (pa_cons pe_int pa_nil)) (pe_callB call_len_seq rfl T.len PySem.boot_len (pa_cons (pv 0) pa_nil))))
      (pss_cons (ps_for PassesOwn.never rfl (pi_range1 rfl T.range (pa_cons (pe_callB call_len_seq rfl T.len PySem.boot_len (pa_cons (pv 0) pa_nil)) pa_nil)) (pg_name (i := 2) scN.nd rfl (Or.inl rfl))
        (pss_one (ps_asg (pv 2) (pg_sub (pv 1) (pe_ix ix_list (pv 0) (pv 2) (fun _ _ => rfl)) set_list))))
      (pss_one (ps_ret (pv 1)))), ?_⟩
    refine ⟨by show 1 ≤ sizeLine; decide, fun l hl => ⟨_, rfl, a, _, rfl, .inl ((same_upd hl).seq hA), l, _, _, rfl, rfl, upd_same, by rw [nv_len]; omega, by rw [nv_len]; omega, by rw [nv_len, sizeLine_eq]; simp; omega, fun q hq => ?_⟩⟩
    have hq0 : H q = none := (same_upd hl).free hq
    rw [nv_len, Int.toNat_natCast, nv_rep]
    have S1 : Same H (upd (upd H l (.lst [.int 0])) q (.lst (nv (List.replicate o.length 0)))) := (same_upd hl).trans (same_upd hq)
    refine ⟨_, rfl, _, _, rfl, .inl (S1.seq hA), (o.length : Int), by rw [nv_len], by omega, by omega, ?_⟩
    refine for_range (lo := 0) (n := ((o.length : Nat) : Int).toNat) (fun i σ H' => ∃ (v : Option V) (N : List Nat), σ = [some (.ref a), some (.ref q), v] ∧ Same H H' ∧ H' q = some (.lst (nv N)) ∧ N.length = o.length ∧ ∀ j, j < i → N.getD (o.getD j 0) 0 = j)
      ⟨none, List.replicate o.length 0, rfl, S1, upd_same, by rw [List.length_replicate], fun j hj => by omega⟩ ?_ ?_
    · rintro i σ H' hi ⟨v, N, rfl, S2, hN, hNl, hNk⟩
      have hi' : i < o.length := by omega
      have lo1 := TE.perm_lt he (k := i) (by omega)
      refine ⟨_, rfl, _, rfl, _, rfl, _, rfl, a, _, _, _, rfl, rfl, S2.seq hA, nat_at (k := i) (by omega) hi', q, _, _, _, rfl, rfl, hN, ixN_nat (by rw [nv_len, hNl]; omega), ?_⟩
      refine ⟨_, N.set (o.getD i 0) i, rfl, same_upd' S2 hq0, by rw [upd_same, show (0 : Int) + (i : Nat) = (i : Nat) by omega, nv_set], by rw [List.length_set]; exact hNl, fun j hj => ?_⟩
      rw [getD_set (by rw [hNl]; omega)]
      by_cases e : j = i
      · subst e; rw [if_pos rfl]
      · rw [if_neg (fun z => e (TE.perm_inj he (by omega) (by omega) z)), hNk j (by omega)]
    · rintro σ H' ⟨v, N, rfl, S2, hN, hNl, hNk⟩
      refine ⟨_, rfl, ?_⟩
      exact k q N H' ⟨hNl, fun j hj => hNk j (by omega)⟩ S2 hq0 hN
end
end W
end

section
set_option Elab.async false
set_option linter.all false
set_option maxRecDepth 100000
set_option maxHeartbeats 2000000
namespace W
open PySem PySem.Spec PyProof.Rows L2
/-! ### neighbours_share -/
def shs (t o : List Nat) : List Nat := (List.range t.length).map (TE.sh t o)
theorem shs_len (t o : List Nat) : (shs t o).length = t.length := by unfold shs; rw [List.length_map, List.length_range]
theorem shs_get {t o : List Nat} {k : Nat} (h : k < t.length) : (shs t o).getD k 0 = TE.sh t o k := by
  unfold shs
  rw [List.getD_eq_getElem?_getD, List.getElem?_map, List.getElem?_range h]; rfl
theorem ext_getD {a b : List Nat} (hl : a.length = b.length) (h : ∀ k, k < a.length → a.getD k 0 = b.getD k 0) : a = b := by
  apply List.ext_getElem hl
  intro i h1 h2
  have := h i h1
  rw [List.getD_eq_getElem?_getD, List.getD_eq_getElem?_getD, List.getElem?_eq_getElem h1, List.getElem?_eq_getElem h2] at this
  exact this
def SI (t o : List Nat) (H : Hp) (a b d q : Addr) (i : Nat) (σ : L2.St) (H' : Hp) : Prop := ∃ (v v' v'' : Option V) (S : List Nat) (L : Nat), σ = [some (.ref a), some (.ref b), some (.ref d), some (.int (t.length : Nat)), some (.ref q), some (.int L), v, v', v''] ∧ Same H H' ∧ H' q = some (.lst (nv S)) ∧ S.length = t.length ∧
        (∀ k, k < t.length → S.getD k 0 = if o.getD k 0 < i then TE.sh t o k else 0) ∧ ∀ k, k < t.length → o.getD k 0 = i → 0 < k → L ≤ TE.sh t o k
def spShare (K : PySem.W.Frag) : Sp := fun vs H Q _ => ∃ (a b d : Addr) (t o N : List Nat), vs = [.ref a, .ref b, .ref d] ∧ SqL K H a (nv t) ∧ SqL K H b (nv o) ∧ SqL K H d (nv N) ∧ Sw16.Ends t o ∧ Numbers o N ∧ t.length ≤ 2 ^ 20 ∧
  ∀ (p : Addr) (H' : Hp), Same H H' → H p = none → H' p = some (.lst (nv (shs t o))) → Q (.ref p) H'
section
variable {P : Program} {w : World} {K : PySem.W.Frag} {mg : Str → Option Value} {base : Heap} {c Pt : Addr}
theorem scS : FnScope ["text", "order", "numbers", "n", "shared", "length", "place", "k", "before"] ["text", "order", "numbers"] (defScope sShare) := ⟨rfl, rfl, rfl, by decide +kernel, rfl, by decide +kernel, by decide +kernel⟩
theorem max_cast (a b : Nat) : (if (b : Int) > (a : Int) then (b : Int) else (a : Int)) = ((Nat.max a b : Nat) : Int) := by
  show _ = ((max a b : Nat) : Int)
  split <;> omega
theorem dec_eq {i j : Int} : decide (V.int i = V.int j) = decide (i = j) := by
  by_cases h : i = j
  · subst h; simp
  · have : ¬ V.int i = V.int j := fun z => h (V.int.inj z)
    rw [decide_eq_false this, decide_eq_false h]
theorem ok_share {f : Addr} {fd : FuncData} (F : Fun K "neighbours_share" "neighbours_share" sShare f fd) (T : Txt K mg base c Pt) : FnOk P w K mg base CX0 1 f fd ["text", "order", "numbers"] (spShare K) := by
  refine F.ok scS (fun vs H Q E h => ?_) (fun cdv A outer s H vs Q E hr h => ?_)
  · obtain ⟨a, b, d, t, o, N, rfl, _⟩ := h
    rfl
  · obtain ⟨a, b, d, t, o, N, rfl, hA, hB, hD, he, hN, hz, k⟩ := h
    have hol := TE.ends_length he
    refine ⟨_, pss_cons (ps_set (i := 3) scS.nd rfl (Or.inl rfl) (pe_callB call_len_seq rfl T.len PySem.boot_len (pa_cons (pv 0) pa_nil)))
      (pss_cons (ps_set (i := 4) scS.nd rfl (Or.inl rfl) (pe_op op_rep (pe_lst (pa_cons pe_int pa_nil)) (pv 3)))
      (pss_cons (ps_set (i := 5) scS.nd rfl (Or.inl rfl) pe_int)
      (pss_cons (ps_for PassesOwn.never rfl (pi_range1 rfl T.range (pa_cons (pv 3) pa_nil)) (pg_name (i := 6) scS.nd rfl (Or.inl rfl))
        (pss_cons (ps_set (i := 7) scS.nd rfl (Or.inl rfl) (pe_ix ix_list (pv 2) (pv 6) (fun _ _ => rfl)))
        (pss_cons (ps_if (pt_cmpR op_eq (pv 7) pe_int (nomark _)) (pss_cons (ps_set (i := 5) scS.nd rfl (Or.inl rfl) pe_int) (pss_one ps_continue)) pss_nil)
        (pss_cons (ps_set (i := 8) scS.nd rfl (Or.inl rfl) (pe_ix ix_list (pv 1) (pe_op op_sub (pv 7) pe_int) (fun _ _ => rfl)))
        (pss_cons (ps_while PassesOwn.never (PW.pt (pw_and (pt_cmpR op_lt (pe_op op_add (pe_callB (call_max2 rfl) rfl T.max boot_max (pa_cons (pv 6) (pa_cons (pv 8) pa_nil))) (pv 5)) (pv 3) (nomark _))
              (pw_and1 (pt_cmpR op_eq (pe_ix ix_list (pv 0) (pe_op op_add (pv 6) (pv 5)) (fun _ _ => rfl)) (pe_ix ix_list (pv 0) (pe_op op_add (pv 8) (pv 5)) (fun _ _ => rfl)) (nomark _)))))
            (pss_one (ps_aug (i := 5) scS.nd rfl (Or.inl rfl) pe_int ip_add)))
        (pss_cons (ps_asg (pv 5) (pg_sub (pv 4) (pv 7) set_list))
        (pss_one (ps_set (i := 5) scS.nd rfl (Or.inl rfl) (pe_callB (call_max2 rfl) rfl T.max boot_max (pa_cons (pe_op op_sub (pv 5) pe_int) (pa_cons pe_int pa_nil)))))))))))
      (pss_one (ps_ret (pv 4)))))), ?_⟩
    refine ⟨_, rfl, a, _, rfl, .inl hA, ?_⟩
    rw [nv_len]
    refine ⟨by show 1 ≤ sizeLine; decide, fun l hl => ⟨_, rfl, l, _, _, rfl, rfl, upd_same, by omega, by omega, by rw [sizeLine_eq]; simp; omega, fun q hq => ?_⟩⟩
    have hq0 : H q = none := (same_upd hl).free hq
    rw [Int.toNat_natCast, nv_rep]
    have S1 : Same H (upd (upd H l (.lst [.int 0])) q (.lst (nv (List.replicate t.length 0)))) := (same_upd hl).trans (same_upd hq)
    refine ⟨_, rfl, (t.length : Int), rfl, by omega, by omega, ?_⟩
    refine for_range (lo := 0) (n := ((t.length : Nat) : Int).toNat) (SI t o H a b d q)
      ⟨none, none, none, List.replicate t.length 0, 0, rfl, S1, upd_same, by rw [List.length_replicate], fun k _ => ?_, fun k _ _ _ => Nat.zero_le _⟩ ?_ ?_
    · rw [if_neg (by omega), List.getD_eq_getElem?_getD, List.getElem?_replicate]
      split <;> rfl
    · rintro i σ H' hi ⟨v, v', v'', S, L, rfl, S2, hS, hSl, hSk, hL⟩
      have hi' : i < t.length := by omega
      obtain ⟨kk, hkk, ekk⟩ := TE.ends_surj he hi'
      have hNk : N.getD i 0 = kk := by rw [← ekk]; exact hN.2 kk (by omega)
      have hNl : N.length = t.length := hN.1.trans hol
      refine ⟨_, rfl, _, rfl, d, _, _, _, rfl, rfl, S2.seq hD, nat_at (k := i) (by omega) (by omega), ?_⟩
      rw [hNk]
      refine ⟨_, rfl, rfl, _, rfl, ?_⟩
      rw [dec_eq]
      refine ite2 (fun hc => ?_) (fun hc => ?_)
      · have hc : ((kk : Nat) : Int) = 0 := of_decide_eq_true hc
        have hk0 : kk = 0 := by omega
        subst hk0
        refine ⟨_, _, _, S, 0, rfl, S2, hS, hSl, fun k hk => ?_, fun k _ _ _ => Nat.zero_le _⟩
        rw [hSk k hk]
        by_cases e : k = 0
        · subst e; rw [TE.sh_zero]; split <;> split <;> rfl
        · have : o.getD k 0 ≠ i := fun z => e (TE.ends_inj he hk hkk (by rw [z, ekk]))
          by_cases h1 : o.getD k 0 < i
          · rw [if_pos h1, if_pos (by omega)]
          · rw [if_neg h1, if_neg (by omega)]
      · have hc : ¬ ((kk : Nat) : Int) = 0 := fun z => hc (decide_eq_true z)
        have hk0 : 0 < kk := by omega
        have hLk := hL kk hkk ekk hk0
        have esh : TE.sh t o kk = Sw16.common (Sw16.end_ t i) (Sw16.end_ t (o.getD (kk - 1) 0)) := by
          rw [TE.sh_pos hk0, ekk, TE.common_comm]
        have hbf := TE.ends_lt he (k := kk - 1) (by omega)
        refine ⟨_, rfl, _, rfl, _, _, rfl, rfl, b, _, _, _, rfl, rfl, S2.seq hB, nat_at (k := kk - 1) (by omega) (by omega), ?_⟩
        generalize hp : o.getD (kk - 1) 0 = p at *
        -- the bytes that both share
        refine ⟨fun m σ H'' => ∃ L' : Nat, m = TE.sh t o kk - L' ∧ H'' = H' ∧ σ = [some (.ref a), some (.ref b), some (.ref d), some (.int (t.length : Nat)), some (.ref q), some (.int L'), some (.int (0 + (i : Nat))), some (.int (kk : Nat)), some (.int (p : Nat))] ∧ L' ≤ TE.sh t o kk,
          ⟨_, L, rfl, rfl, rfl, hLk⟩, ?_⟩
        rintro m σ H'' ⟨L', rfl, rfl, rfl, hL'⟩
        have more := TE.share_more (s := t) (p := i) (q := p) (L := L') (by rw [← esh]; exact hL')
        rw [← esh] at more
        have leave : TE.sh t o kk ≤ L' → ∃ (v v' v'' : Option V) (S' : List Nat) (L2 : Nat), [some (V.ref a), some (.ref b), some (.ref d), some (.int (t.length : Nat)), some (.ref q), some (.int (if (0 : Int) > (L' : Nat) - 1 then 0 else (L' : Nat) - 1)), some (.int (0 + (i : Nat))), some (.int (kk : Nat)), some (.int (p : Nat))] = [some (.ref a), some (.ref b), some (.ref d), some (.int (t.length : Nat)), some (.ref q), some (.int L2), v, v', v''] ∧
            Same H (upd H'' q (.lst ((nv S).set kk (V.int (L' : Nat))))) ∧ (upd H'' q (.lst ((nv S).set kk (V.int (L' : Nat))))) q = some (.lst (nv S')) ∧ S'.length = t.length ∧
            (∀ k, k < t.length → S'.getD k 0 = if o.getD k 0 < i + 1 then TE.sh t o k else 0) ∧ ∀ k, k < t.length → o.getD k 0 = i + 1 → 0 < k → L2 ≤ TE.sh t o k := by
          intro hge
          have eL : L' = TE.sh t o kk := by omega
          refine ⟨some (.int (0 + (i : Nat))), some (.int (kk : Nat)), some (.int (p : Nat)), S.set kk L', L' - 1, ?_, same_upd' S2 hq0, by rw [upd_same, nv_set], by rw [List.length_set]; exact hSl, fun k hk => ?_, fun k hk ek k0 => ?_⟩
          · rw [show (if (0 : Int) > (L' : Nat) - 1 then (0 : Int) else (L' : Nat) - 1) = ((L' - 1 : Nat) : Int) by split <;> omega]
          · rw [getD_set (by rw [hSl]; exact hkk)]
            by_cases e : k = kk
            · subst e
              rw [if_pos rfl, if_pos (by omega), eL]
            · rw [if_neg e, hSk k hk]
              have : o.getD k 0 ≠ i := fun z => e (TE.ends_inj he hk hkk (by rw [z, ekk]))
              by_cases h1 : o.getD k 0 < i
              · rw [if_pos h1, if_pos (by omega)]
              · rw [if_neg h1, if_neg (by omega)]
          · by_cases h2 : 2 ≤ TE.sh t o kk
            · have lt := TE.ends_lt he hk
              have := (TE.kasai he (p := i) (k := k) (k' := kk) (by omega) hk ek hkk ekk hk0 h2).2
              omega
            · omega
        have after : TE.sh t o kk ≤ L' → _ := fun hge => (⟨_, rfl, _, rfl, _, rfl, q, _, _, _, rfl, rfl, hS, ixN_nat (by rw [nv_len, hSl]; exact hkk), _, rfl, _, _, rfl, rfl, _, _, rfl, leave hge⟩ :
          (tSeq (tAsg (tVar 5) (gSub (tVar 4) (tVar 7) rSetL)) (tAsg (tCB (fun xs H Q => ∃ i j, xs = [.int i, .int j] ∧ Q (.int (if j > i then j else i)) H) (tCons (tOp (rI0 fun i j => .int (i - j)) (tVar 5) (tC (.int 1))) (tCons (tC (.int 0)) tNil))) (gName 5))) { nx := SI t o H a b d q (i + 1), rt := Q } [some (.ref a), some (.ref b), some (.ref d), some (.int (t.length : Nat)), some (.ref q), some (.int L'), some (.int (0 + (i : Nat))), some (.int (kk : Nat)), some (.int (p : Nat))] H'')
        refine ⟨_, rfl, _, rfl, _, _, rfl, _, rfl, _, _, rfl, rfl, _, rfl, _, _, rfl, rfl, _, rfl, ?_⟩
        refine ite2 (fun hc => ?_) (fun hc => ?_)
        · have hc : (if (p : Int) > 0 + (i : Int) then (p : Int) else 0 + (i : Int)) + (L' : Nat) < (t.length : Nat) := of_decide_eq_true hc
          have hmax : max i p + L' < t.length := by
            split at hc <;> omega
          refine ⟨_, rfl, _, rfl, _, rfl, _, _, rfl, rfl, a, _, _, _, rfl, rfl, S2.seq hA, nat_at (k := i + L') (by omega) (by omega), _, rfl, _, rfl, _, rfl, _, _, rfl, rfl, a, _, _, _, rfl, rfl, S2.seq hA, nat_at (k := p + L') (by omega) (by omega), rfl, _, rfl, ?_⟩
          rw [dec_eq]
          refine ite2 (fun hd => ?_) (fun hd => ?_)
          · have hd : ((t.getD (i + L') 0 : Nat) : Int) = (t.getD (p + L') 0 : Nat) := of_decide_eq_true hd
            have hlt := more.mp ⟨hmax, by omega⟩
            refine ⟨fun σ' H3 => ∃ L2 : Nat, L2 = L' + 1 ∧ H3 = H'' ∧ σ' = [some (.ref a), some (.ref b), some (.ref d), some (.int (t.length : Nat)), some (.ref q), some (.int L2), some (.int (0 + (i : Nat))), some (.int (kk : Nat)), some (.int (p : Nat))], fun σ' H3 ⟨L2, e1, e2, e3⟩ => ⟨_, ?_, L2, rfl, e2, e3, by omega⟩, ?_⟩
            · omega
            · exact ⟨_, rfl, _, _, rfl, rfl, L' + 1, rfl, rfl, rfl⟩
          · have hd : ¬ ((t.getD (i + L') 0 : Nat) : Int) = (t.getD (p + L') 0 : Nat) := fun z => hd (decide_eq_true z)
            exact after (Nat.le_of_not_lt fun hlt => hd (by have := (more.mpr hlt).2; omega))
        · have hc : ¬ (if (p : Int) > 0 + (i : Int) then (p : Int) else 0 + (i : Int)) + (L' : Nat) < (t.length : Nat) := fun z => hc (decide_eq_true z)
          refine after (Nat.le_of_not_lt fun hlt => hc ?_)
          have := (more.mpr hlt).1
          split <;> omega
    · rintro σ H' ⟨v, v', v'', S, L, rfl, S2, hS, hSl, hSk, hL⟩
      refine ⟨_, rfl, ?_⟩
      have e : S = shs t o := ext_getD (by rw [shs_len]; exact hSl) fun k hk => by
        rw [hSk k (by omega), shs_get (by omega), if_pos (by have := TE.ends_lt he (k := k) (by omega); omega)]
      rw [e] at hS
      exact k q H' S2 hq0 hS
end
end W
end

section
set_option Elab.async false
set_option linter.all false
set_option maxRecDepth 100000
set_option maxHeartbeats 2000000
namespace W
open PySem PySem.Spec PyProof.Rows L2
abbrev sAllRuns : Stmt := top 13
abbrev sBetter : Stmt := top 14
abbrev sBest : Stmt := top 15
/-! ### lists of tuples -/
def RunAt (K : PySem.W.Frag) (H : Hp) (v : V) (r : TE.Run) : Prop := ∃ a, v = .ref a ∧ SqT K H a [.int (r.1 : Nat), .int (r.2.1 : Nat), .int (r.2.2 : Nat)]
def WaitAt (K : PySem.W.Frag) (H : Hp) (v : V) (r : Nat × Nat) : Prop := ∃ a, v = .ref a ∧ SqT K H a [.int (r.1 : Nat), .int (r.2 : Nat)]
def Ls {α : Type} (R : V → α → Prop) (xs : List V) (rs : List α) : Prop := xs.length = rs.length ∧ ∀ (i : Nat) (r : α), rs[i]? = some r → ∃ v, xs[i]? = some v ∧ R v r
theorem Ls.nil {α : Type} {R : V → α → Prop} : Ls R [] [] := ⟨rfl, fun i r h => by simp at h⟩
theorem Ls.snoc {α : Type} {R : V → α → Prop} {xs : List V} {rs : List α} {v : V} {r : α} (h : Ls R xs rs) (hr : R v r) : Ls R (xs ++ [v]) (rs ++ [r]) := by
  refine ⟨by simp [h.1], fun i q hq => ?_⟩
  rw [List.getElem?_append] at hq ⊢
  rw [h.1]
  split at hq
  · rename_i hi; rw [if_pos hi]; exact h.2 i q hq
  · rename_i hi
    rw [if_neg hi]
    cases e : i - rs.length with
    | zero => rw [e] at hq; cases hq; exact ⟨v, rfl, hr⟩
    | succ j => rw [e] at hq; simp at hq
theorem Ls.mono {α : Type} {R R' : V → α → Prop} {xs : List V} {rs : List α} (h : Ls R xs rs) (f : ∀ v r, R v r → R' v r) : Ls R' xs rs :=
  ⟨h.1, fun i r hr => let ⟨v, a, b⟩ := h.2 i r hr; ⟨v, a, f v r b⟩⟩
theorem Ls.last {α : Type} {R : V → α → Prop} {xs : List V} {rs : List α} {r : α} (h : Ls R xs (rs ++ [r])) : ∃ v, xs[xs.length - 1]? = some v ∧ atI xs (-1) = some v ∧ R v r ∧ Ls R xs.dropLast rs := by
  have hl : xs.length = rs.length + 1 := by rw [h.1]; simp
  obtain ⟨v, hv, hr⟩ := h.2 rs.length r (by simp)
  refine ⟨v, by rw [hl]; exact hv, ?_, hr, by rw [List.length_dropLast, hl]; omega, fun i q hq => ?_⟩
  · unfold atI ixN
    rw [if_neg (by omega), if_pos (by omega), show ((-1 : Int) + (xs.length : Nat)).toNat = rs.length by omega]
    exact hv
  · have hi : i < rs.length := (List.getElem?_eq_some_iff.mp hq).1
    obtain ⟨u, hu, hr'⟩ := h.2 i q (by rw [List.getElem?_append_left hi]; exact hq)
    exact ⟨u, by rw [List.getElem?_dropLast, if_pos (by omega)]; exact hu, hr'⟩
theorem Ls.set {α : Type} {R : V → α → Prop} {xs : List V} {rs : List α} {v : V} {r : α} (h : Ls R xs rs) (i : Nat) (hr : R v r) : Ls R (xs.set i v) (rs.set i r) := by
  refine ⟨by simp [h.1], fun j q hq => ?_⟩
  rw [List.getElem?_set] at hq ⊢
  rw [h.1]
  by_cases e : i = j
  · rw [if_pos e] at hq ⊢
    split at hq
    · rename_i hi; cases hq; rw [if_pos hi]; exact ⟨v, rfl, hr⟩
    · cases hq
  · rw [if_neg e] at hq ⊢; exact h.2 j q hq
theorem Ls.at {α : Type} {R : V → α → Prop} {xs : List V} {rs : List α} (h : Ls R xs rs) {z : Int} {i : Nat} {r : α} (e : z = (i : Int)) (hr : rs[i]? = some r) : ∃ v, atI xs z = some v ∧ R v r := by
  obtain ⟨v, a, b⟩ := h.2 i r hr
  exact ⟨v, at_of e a, b⟩
theorem sqT_same {K : PySem.W.Frag} {H H' : Hp} {a : Addr} {xs : List V} (s : Same H H') (h : SqT K H a xs) : SqT K H' a xs := by
  rcases h with (h | ⟨o, h⟩) | h
  · exact .inl (.inl (s _ _ h))
  · exact .inl (.inr ⟨o, s _ _ h⟩)
  · exact .inr h
theorem sqT_upd {K : PySem.W.Frag} {H : Hp} {a q : Addr} {xs ys : List V} {o : HO} (hq : H q = some (.lst ys)) (h : SqT K H a xs) : SqT K (upd H q o) a xs := by
  rcases h with (h | ⟨u, h⟩) | h
  · exact .inl (.inl (by rw [upd_ne (ne_of h hq (by intro z; cases z))]; exact h))
  · exact .inl (.inr ⟨u, by rw [upd_ne (ne_of h hq (by intro z; cases z))]; exact h⟩)
  · exact .inr h
theorem sqT_new {K : PySem.W.Frag} {H : Hp} {a q : Addr} {xs : List V} {o : HO} (hq : H q = none) (h : SqT K H a xs) : SqT K (upd H q o) a xs := sqT_same (same_upd hq) h
theorem ls_runs_upd {K : PySem.W.Frag} {H : Hp} {q : Addr} {ys xs : List V} {o : HO} {rs : List TE.Run} (hq : H q = some (.lst ys)) (h : Ls (RunAt K H) xs rs) : Ls (RunAt K (upd H q o)) xs rs := h.mono fun v r ⟨a, e, s⟩ => ⟨a, e, sqT_upd hq s⟩
theorem ls_wait_upd {K : PySem.W.Frag} {H : Hp} {q : Addr} {ys xs : List V} {o : HO} {rs : List (Nat × Nat)} (hq : H q = some (.lst ys)) (h : Ls (WaitAt K H) xs rs) : Ls (WaitAt K (upd H q o)) xs rs := h.mono fun v r ⟨a, e, s⟩ => ⟨a, e, sqT_upd hq s⟩
theorem ls_runs_same {K : PySem.W.Frag} {H H' : Hp} {xs : List V} {rs : List TE.Run} (hs : Same H H') (h : Ls (RunAt K H) xs rs) : Ls (RunAt K H') xs rs := h.mono fun v r ⟨a, e, s⟩ => ⟨a, e, sqT_same hs s⟩
theorem ls_wait_same {K : PySem.W.Frag} {H H' : Hp} {xs : List V} {rs : List (Nat × Nat)} (hs : Same H H') (h : Ls (WaitAt K H) xs rs) : Ls (WaitAt K H') xs rs := h.mono fun v r ⟨a, e, s⟩ => ⟨a, e, sqT_same hs s⟩
/-! ### all_runs -/
def gl (S : List Nat) (j : Nat) : Nat := S.getD j 0
def spAllRuns (K : PySem.W.Frag) : Sp := fun vs H Q _ => ∃ (a : Addr) (S : List Nat), vs = [.ref a] ∧ SqL K H a (nv S) ∧ 0 < S.length ∧ S.getD 0 0 = 0 ∧ S.length ≤ 2 ^ 20 ∧
  ∀ (p : Addr) (H' : Hp) (xs : List V) (rs : List TE.Run), Same H H' → H p = none → H' p = some (.lst xs) → Ls (RunAt K H') xs rs → TE.Runs (gl S) S.length rs → Q (.ref p) H'
/-- between two turns -/
def RI (K : PySem.W.Frag) (S : List Nat) (H : Hp) (a q u : Addr) (i : Nat) (σ : L2.St) (H' : Hp) : Prop := ∃ (v4 v5 v6 v7 : Option V) (xs ys : List V) (rs : List TE.Run) (ws : List (Nat × Nat)),
  σ = [some (.ref a), some (.int (S.length : Nat)), some (.ref q), some (.ref u), v4, v5, v6, v7] ∧ Same H H' ∧ H' q = some (.lst xs) ∧ H' u = some (.lst ys) ∧ Ls (RunAt K H') xs rs ∧ Ls (WaitAt K H') ys ws ∧ TE.Turn (gl S) S.length (i + 1) rs ws ∧ rs.length + ws.length ≤ i
section
variable {P : Program} {w : World} {K : PySem.W.Frag} {mg : Str → Option Value} {base : Heap} {c Pt : Addr}
theorem scA : FnScope ["shared", "n", "runs", "waiting", "k", "length", "first", "over"] ["shared"] (defScope sAllRuns) := ⟨rfl, rfl, rfl, by decide +kernel, rfl, by decide +kernel, by decide +kernel⟩
theorem list_last {α : Type} (l : List α) : l = [] ∨ ∃ i x, l = i ++ [x] := by
  rcases List.eq_nil_or_concat l with h | ⟨i, x, h⟩
  · exact .inl h
  · exact .inr ⟨i, x, by rw [h, List.concat_eq_append]⟩
theorem ls_empty {α : Type} {R : V → α → Prop} {xs : List V} {rs : List α} (h : Ls R xs rs) : xs.isEmpty = rs.isEmpty := by
  have := h.1
  cases xs <;> cases rs <;> simp at this ⊢
theorem ok_allRuns {f : Addr} {fd : FuncData} (F : Fun K "all_runs" "all_runs" sAllRuns f fd) (T : Txt K mg base c Pt) : FnOk P w K mg base CX0 1 f fd ["shared"] (spAllRuns K) := by
  refine F.ok scA (fun vs H Q E h => ?_) (fun cdv A outer s H vs Q E hr h => ?_)
  · obtain ⟨a, S, rfl, _⟩ := h
    rfl
  · obtain ⟨a, S, rfl, hA, hn, h0, hz, k⟩ := h
    have g0 : gl S 0 = 0 := h0
    refine ⟨_, pss_cons (ps_set (i := 1) scA.nd rfl (Or.inl rfl) (pe_callB call_len_seq rfl T.len PySem.boot_len (pa_cons (pv 0) pa_nil)))
      (pss_cons (ps_set (i := 2) scA.nd rfl (Or.inl rfl) (pe_lst pa_nil))
      (pss_cons (ps_set (i := 3) scA.nd rfl (Or.inl rfl) (pe_lst pa_nil))
      (pss_cons (ps_for PassesOwn.never rfl (pi_range2 rfl T.range (pa_cons pe_int (pa_cons (pe_op op_add (pv 1) pe_int) pa_nil))) (pg_name (i := 4) scA.nd rfl (Or.inl rfl))
        (pss_cons (ps_set (i := 5) scA.nd rfl (Or.inl rfl) (pe_ifExp (pt_cmpR op_lt (pv 4) (pv 1) (nomark _)) (pe_ix ix_list (pv 0) (pv 4) (fun _ _ => rfl)) pe_int))
        (pss_cons (ps_set (i := 6) scA.nd rfl (Or.inl rfl) (pe_op op_sub (pv 4) pe_int))
        (pss_cons (ps_while PassesOwn.never (PW.pt (pw_and (pt_truth (pv 3) (fun _ => rfl)) (pw_and1 (pt_cmpR op_gt (pe_ix ix_tup (pe_ix ix_list (pv 3) (pe_un un_neg pe_int) (fun _ _ => rfl)) pe_int (fun _ _ => rfl)) (pv 5) (nomark _)))))
            (pss_cons (ps_set (i := 7) scA.nd rfl (Or.inl rfl) (pe_bm0 PySem.F.plainAttrs_list PySem.F.slot_list_pop PySem.F.type_list_pop mt_pop (pv 3)))
            (pss_cons (ps_set (i := 6) scA.nd rfl (Or.inl rfl) (pe_ix ix_tup (pv 7) pe_int (fun _ _ => rfl)))
            (pss_one (ps_expr (pe_bm PySem.F.plainAttrs_list PySem.F.slot_list_append PySem.F.type_list_append mt_append (pv 2) (pa_cons (pe_tup (pa_cons (pe_ix ix_tup (pv 7) pe_int (fun _ _ => rfl)) (pa_cons (pv 6) (pa_cons (pe_op op_sub (pv 4) (pv 6)) pa_nil)))) pa_nil)))))))
        (pss_one (ps_if (PW.pt (pw_and (pt_cmpR op_gt (pv 5) pe_int (nomark _)) (pw_and1 (PW.pt (pw_or (pt_not (pt_truth (pv 3) (fun _ => rfl))) (pw_or1 (pt_cmpR op_lt (pe_ix ix_tup (pe_ix ix_list (pv 3) (pe_un un_neg pe_int) (fun _ _ => rfl)) pe_int (fun _ _ => rfl)) (pv 5) (nomark _))))))))
            (pss_one (ps_expr (pe_bm PySem.F.plainAttrs_list PySem.F.slot_list_append PySem.F.type_list_append mt_append (pv 3) (pa_cons (pe_tup (pa_cons (pv 5) (pa_cons (pv 6) pa_nil))) pa_nil)))) pss_nil))))))
      (pss_one (ps_ret (pv 2)))))), ?_⟩
    refine ⟨_, rfl, a, _, rfl, .inl hA, ?_⟩
    rw [nv_len]
    refine ⟨Nat.zero_le _, fun q hq => ⟨Nat.zero_le _, fun u hu => ?_⟩⟩
    have hu0 : H u = none := (same_upd hq).free hu
    have hqu : q ≠ u := fun z => by rw [← z, upd_same] at hu; cases hu
    have S1 : Same H (upd (upd H q (.lst [])) u (.lst [])) := (same_upd hq).trans (same_upd hu)
    refine ⟨_, rfl, _, _, rfl, rfl, 1, (S.length : Int) + 1, rfl, ⟨by omega, by omega, by omega, by omega⟩, ?_⟩
    rw [show ((S.length : Int) + 1 - 1).toNat = S.length by omega]
    refine for_range (lo := 1) (n := S.length) (RI K S H a q u) ⟨none, none, none, none, [], [], [], [], rfl, S1, by rw [upd_ne hqu, upd_same], upd_same, .nil, .nil, TE.Turn.start, Nat.le_refl _⟩ ?_ ?_
    · rintro i σ H' hi ⟨v4, v5, v6, v7, xs, ys, rs, ws, rfl, S2, hxs, hys, lr, lw, tn, hsz⟩
      have eadd : (1 : Int) + (i : Nat) = ((1 + i : Nat) : Int) := by omega
      have tn' : TE.Turn (gl S) S.length (1 + i) rs ws := by rw [Nat.add_comm 1 i]; exact tn
      have pop0 := tn'.pops g0 (by omega)
      -- the while, from any state of it
      have run : ∀ (σ0 : L2.St) (D : L2.Ends), σ0 = [some (.ref a), some (.int (S.length : Nat)), some (.ref q), some (.ref u), some (.int (1 + (i : Nat))), some (.int (gl S (1 + i) : Nat)), some (.int (1 + (i : Nat) - 1)), v7] → D.nx = RI K S H a q u (i + 1) →
          (tSeq (tWhile (tAnd (fun σ H Q => tVar 3 σ H fun x H' => ∃ k, TruV K x H' k ∧ Q k H') (tTest (tOp (rI0 fun i j => .bl (decide (j < i))) (tOp (rIxT K) (tOp (rIxL K) (tVar 3) (tUn (rU fun i => .int (-i)) (tC (.int 1)))) (tC (.int 0))) (tVar 5))))
            (tSeq (tAsg (tBM0 K "list" rPop (tVar 3)) (gName 7)) (tSeq (tAsg (tOp (rIxT K) (tVar 7) (tC (.int 1))) (gName 6)) (tDrop (tBM K "list" rAppend (tVar 2) (tCons (tTup (tCons (tOp (rIxT K) (tVar 7) (tC (.int 0))) (tCons (tVar 6) (tCons (tOp (rI0 fun i j => .int (i - j)) (tVar 4) (tVar 6)) tNil)))) tNil))))))
            (tIfS (tAnd (tTest (tOp (rI0 fun i j => .bl (decide (j < i))) (tVar 5) (tC (.int 0)))) (tOr (tNot (fun σ H Q => tVar 3 σ H fun x H' => ∃ k, TruV K x H' k ∧ Q k H')) (tTest (tOp (rI0 fun i j => .bl (decide (i < j))) (tOp (rIxT K) (tOp (rIxL K) (tVar 3) (tUn (rU fun i => .int (-i)) (tC (.int 1)))) (tC (.int 0))) (tVar 5)))))
              (tDrop (tBM K "list" rAppend (tVar 3) (tCons (tTup (tCons (tVar 5) (tCons (tVar 6) tNil))) tNil))) tNext)) D σ0 H' := by
        rintro σ0 D rfl hD
        refine ⟨fun m σ H'' => ∃ (v7 : Option V) (xs ys : List V) (rs : List TE.Run) (ws : List (Nat × Nat)) (first : Nat), m = ws.length ∧ σ = [some (.ref a), some (.int (S.length : Nat)), some (.ref q), some (.ref u), some (.int (1 + (i : Nat))), some (.int (gl S (1 + i) : Nat)), some (.int (first : Nat)), v7] ∧
            Same H H'' ∧ H'' q = some (.lst xs) ∧ H'' u = some (.lst ys) ∧ Ls (RunAt K H'') xs rs ∧ Ls (WaitAt K H'') ys ws ∧ TE.Pops (gl S) S.length (1 + i) rs ws first ∧ rs.length + ws.length ≤ i,
          ⟨_, v7, xs, ys, rs, ws, 1 + i - 1, rfl, by rw [show (1 : Int) + (i : Nat) - 1 = ((1 + i - 1 : Nat) : Int) by omega], S2, hxs, hys, lr, lw, pop0, hsz⟩, ?_⟩
        rintro m σ H3 ⟨v7, xs, ys, rs, ws, first, rfl, rfl, S3, hxs, hys, lr, lw, pp, hsz⟩
        refine ⟨_, rfl, _, .inl ⟨_, SqL.of hys, rfl⟩, ?_⟩
        rw [ls_empty lw]
        -- what waits on; the end of the turn
        have rest : (∀ p ∈ ws, p.1 ≤ gl S (1 + i)) → (tIfS (tAnd (tTest (tOp (rI0 fun i j => .bl (decide (j < i))) (tVar 5) (tC (.int 0)))) (tOr (tNot (fun σ H Q => tVar 3 σ H fun x H' => ∃ k, TruV K x H' k ∧ Q k H')) (tTest (tOp (rI0 fun i j => .bl (decide (i < j))) (tOp (rIxT K) (tOp (rIxL K) (tVar 3) (tUn (rU fun i => .int (-i)) (tC (.int 1)))) (tC (.int 0))) (tVar 5)))))
              (tDrop (tBM K "list" rAppend (tVar 3) (tCons (tTup (tCons (tVar 5) (tCons (tVar 6) tNil))) tNil))) tNext) D [some (.ref a), some (.int (S.length : Nat)), some (.ref q), some (.ref u), some (.int (1 + (i : Nat))), some (.int (gl S (1 + i) : Nat)), some (.int (first : Nat)), v7] H3 := by
          intro hle
          have stay : (gl S (1 + i) = 0 ∨ ∃ f, (gl S (1 + i), f) ∈ ws) → D.nx [some (.ref a), some (.int (S.length : Nat)), some (.ref q), some (.ref u), some (.int (1 + (i : Nat))), some (.int (gl S (1 + i) : Nat)), some (.int (first : Nat)), v7] H3 := fun hc => by
            rw [hD]
            exact ⟨_, _, _, _, xs, ys, rs, ws, rfl, S3, hxs, hys, lr, lw, by rw [show i + 1 + 1 = 1 + i + 1 by omega]; exact pp.stay hle hc, by omega⟩
          have push : 0 < gl S (1 + i) → (∀ p ∈ ws, p.1 < gl S (1 + i)) → (tDrop (tBM K "list" rAppend (tVar 3) (tCons (tTup (tCons (tVar 5) (tCons (tVar 6) tNil))) tNil))) D [some (.ref a), some (.int (S.length : Nat)), some (.ref q), some (.ref u), some (.int (1 + (i : Nat))), some (.int (gl S (1 + i) : Nat)), some (.int (first : Nat)), v7] H3 := fun hp hlt => by
            refine ⟨_, rfl, .inl ⟨rfl, _, SqL.of hys⟩, _, rfl, _, rfl, by show 2 ≤ sizeLine; decide, fun tp htp => ?_⟩
            have nu : (upd H3 tp (.tup [.int (gl S (1 + i) : Nat), .int (first : Nat)])) u = some (.lst ys) := by rw [upd_ne (ne_of_none hys htp)]; exact hys
            have nq : (upd H3 tp (.tup [.int (gl S (1 + i) : Nat), .int (first : Nat)])) q = some (.lst xs) := by rw [upd_ne (ne_of_none hxs htp)]; exact hxs
            refine ⟨u, ys, _, rfl, rfl, nu, by rw [lw.1, sizeLine_eq]; omega, ?_⟩
            show D.nx _ _
            rw [hD]
            refine ⟨_, _, _, _, xs, ys ++ [.ref tp], rs, ws ++ [(gl S (1 + i), first)], rfl, same_upd' (S3.trans (same_upd htp)) hu0, by rw [upd_ne hqu]; exact nq, upd_same, ls_runs_upd nu (ls_runs_same (same_upd htp) lr),
              (ls_wait_upd nu (ls_wait_same (same_upd htp) lw)).snoc ⟨tp, rfl, SqT.of (by rw [upd_ne (fun z => by rw [z, upd_same] at nu; cases nu), upd_same])⟩, by rw [show i + 1 + 1 = 1 + i + 1 by omega]; exact pp.push hlt hp, by rw [List.length_append]; simp; omega⟩
          refine ⟨_, rfl, _, _, rfl, rfl, _, rfl, ?_⟩
          refine ite2 (fun hc => ?_) (fun hc => ?_)
          · have hc : (0 : Int) < (gl S (1 + i) : Nat) := of_decide_eq_true hc
            refine ⟨_, rfl, _, .inl ⟨_, SqL.of hys, rfl⟩, ?_⟩
            rw [ls_empty lw]
            rcases list_last ws with rfl | ⟨ws', ⟨l, f'⟩, rfl⟩
            · refine iteT (iteT (push (by omega) (by simp)))
            · obtain ⟨v, _, hv, ⟨av, rfl, hT⟩, _⟩ := lw.last
              rw [show (!!(ws' ++ [(l, f')]).isEmpty) = false by simp]
              refine iteF ⟨_, rfl, _, rfl, u, _, _, _, rfl, rfl, SqL.of hys, hv, av, _, _, _, rfl, rfl, hT, at_of (j := 0) rfl rfl, _, rfl, _, _, rfl, rfl, _, rfl, ?_⟩
              refine ite2 (fun hd => ?_) (fun hd => ?_)
              · have hd : ((l : Nat) : Int) < (gl S (1 + i) : Nat) := of_decide_eq_true hd
                refine push (by omega) fun p hp => ?_
                rcases List.mem_append.mp hp with hp | hp
                · have := (List.pairwise_append.mp pp.srt).2.2 p hp (l, f') (by simp)
                  simp only at this
                  omega
                · rw [List.mem_singleton] at hp; subst hp; simp only; omega
              · have hd : ¬ ((l : Nat) : Int) < (gl S (1 + i) : Nat) := fun z => hd (decide_eq_true z)
                have := hle (l, f') (by simp)
                simp only at this
                exact stay (.inr ⟨f', by rw [show gl S (1 + i) = l by omega]; simp⟩)
          · have hc : ¬ (0 : Int) < (gl S (1 + i) : Nat) := fun z => hc (decide_eq_true z)
            exact stay (.inl (by omega))
        rcases list_last ws with rfl | ⟨ws', ⟨l, f'⟩, rfl⟩
        · exact iteF (iteF (rest (by simp)))
        · obtain ⟨v, hv0, hv, ⟨av, rfl, hT⟩, lw'⟩ := lw.last
          rw [show (!(ws' ++ [(l, f')]).isEmpty) = true by simp]
          refine iteT ⟨_, rfl, _, rfl, u, _, _, _, rfl, rfl, SqL.of hys, hv, av, _, _, _, rfl, rfl, hT, at_of (j := 0) rfl rfl, _, rfl, _, _, rfl, rfl, _, rfl, ?_⟩
          refine ite2 (fun hd => ?_) (fun hd => ?_)
          · have hd : ((gl S (1 + i) : Nat) : Int) < (l : Nat) := of_decide_eq_true hd
            have pop1 := pp.pop g0 (by omega) (by omega)
            have hfk : f' < 1 + i := pop1.flt
            refine ⟨fun σ' H4 => ∃ (v7 : Option V) (xs ys : List V) (rs : List TE.Run), σ' = [some (.ref a), some (.int (S.length : Nat)), some (.ref q), some (.ref u), some (.int (1 + (i : Nat))), some (.int (gl S (1 + i) : Nat)), some (.int (f' : Nat)), v7] ∧
              Same H H4 ∧ H4 q = some (.lst xs) ∧ H4 u = some (.lst ys) ∧ Ls (RunAt K H4) xs rs ∧ Ls (WaitAt K H4) ys ws' ∧ TE.Pops (gl S) S.length (1 + i) rs ws' f' ∧ rs.length + ws'.length ≤ i,
              fun σ' H4 ⟨v7, xs, ys, rs, e1, e2, e3, e4, e5, e6, e7, e8⟩ => ⟨ws'.length, by simp, v7, xs, ys, rs, ws', f', rfl, e1, e2, e3, e4, e5, e6, e7, e8⟩, ?_⟩
            refine ⟨_, rfl, .inl ⟨rfl, _, SqL.of hys⟩, u, ys, _, rfl, rfl, hys, hv0, ?_⟩
            have hT2 := sqT_upd (o := .lst ys.dropLast) hys hT
            have nq2 : (upd H3 u (.lst ys.dropLast)) q = some (.lst xs) := by rw [upd_ne hqu]; exact hxs
            refine ⟨_, rfl, av, _, _, _, rfl, rfl, hT2, at_of (j := 1) rfl rfl, ?_⟩
            refine ⟨_, rfl, .inl ⟨rfl, _, SqL.of nq2⟩, _, rfl, av, _, _, _, rfl, rfl, hT2, at_of (j := 0) rfl rfl, _, rfl, _, rfl, _, rfl, _, _, rfl, rfl, by show 3 ≤ sizeLine; decide, fun tp htp => ?_⟩
            have hztp : H3 tp = none := by
              cases z : H3 tp with
              | none => rfl
              | some o =>
                by_cases e : tp = u
                · rw [e, upd_same] at htp; cases htp
                · rw [upd_ne e, z] at htp; cases htp
            have nq3 : (upd (upd H3 u (.lst ys.dropLast)) tp (.tup [.int (l : Nat), .int (f' : Nat), .int (1 + (i : Nat) - (f' : Nat))])) q = some (.lst xs) := by rw [upd_ne (ne_of_none nq2 htp)]; exact nq2
            refine ⟨q, xs, _, rfl, rfl, nq3, by rw [lr.1, sizeLine_eq]; omega, ?_⟩
            have hqt : tp ≠ q := fun z => by rw [z, upd_same] at nq3; cases nq3
            have hut : tp ≠ u := fun z => by rw [z, upd_same] at htp; cases htp
            refine ⟨_, xs ++ [.ref tp], ys.dropLast, rs ++ [(l, f', 1 + i - f')], rfl, ?_, upd_same, ?_, ?_, ?_, pop1, by rw [List.length_append]; simp at hsz ⊢; omega⟩
            · exact same_upd' ((same_upd' S3 hu0).trans (same_upd htp)) hq
            · rw [upd_ne hqu.symm, upd_ne hut.symm, upd_same]
            · exact (ls_runs_upd nq3 (ls_runs_same (same_upd htp) (ls_runs_upd hys lr))).snoc ⟨tp, rfl, SqT.of (by
                rw [upd_ne hqt, upd_same]
                show some (HO.tup [V.int (l : Nat), V.int (f' : Nat), V.int (1 + (i : Nat) - (f' : Nat))]) = some (HO.tup [V.int (l : Nat), V.int (f' : Nat), V.int ((1 + i - f' : Nat) : Int)])
                rw [show (1 : Int) + (i : Nat) - (f' : Nat) = ((1 + i - f' : Nat) : Int) by omega])⟩
            · exact ls_wait_upd nq3 (ls_wait_same (same_upd htp) (ls_wait_upd hys lw'))
          · have hd : ¬ ((gl S (1 + i) : Nat) : Int) < (l : Nat) := fun z => hd (decide_eq_true z)
            refine rest fun p hp => ?_
            rcases List.mem_append.mp hp with hp | hp
            · have := (List.pairwise_append.mp pp.srt).2.2 p hp (l, f') (by simp)
              simp only at this
              omega
            · rw [List.mem_singleton] at hp; subst hp; simp only; omega
      refine ⟨_, rfl, _, rfl, _, _, rfl, rfl, _, rfl, ?_⟩
      refine ite2 (fun hc => ?_) (fun hc => ?_)
      · have hc : (1 : Int) + (i : Nat) < (S.length : Nat) := of_decide_eq_true hc
        refine ⟨_, rfl, _, rfl, a, _, _, _, rfl, rfl, S2.seq hA, nat_at eadd (by omega), ?_⟩
        refine ⟨_, rfl, _, _, rfl, rfl, ?_⟩
        exact run _ _ rfl rfl
      · have hc : ¬ (1 : Int) + (i : Nat) < (S.length : Nat) := fun z => hc (decide_eq_true z)
        have e0 : gl S (1 + i) = 0 := by
          unfold gl
          rw [List.getD_eq_getElem?_getD, List.getElem?_eq_none (by omega)]; rfl
        refine ⟨_, rfl, _, _, rfl, rfl, ?_⟩
        exact run _ _ (by rw [e0]; rfl) rfl
    · rintro σ H' ⟨v4, v5, v6, v7, xs, ys, rs, ws, rfl, S2, hxs, hys, lr, lw, tn, hsz⟩
      refine ⟨_, rfl, ?_⟩
      refine k q H' xs rs S2 hq hxs lr (tn.done ?_)
      unfold gl
      rw [List.getD_eq_getElem?_getD, List.getElem?_eq_none (by omega)]; rfl
end
end W
end

section
set_option Elab.async false
set_option linter.all false
set_option maxRecDepth 100000
set_option maxHeartbeats 2000000
namespace W
open PySem PySem.Spec PyProof.Rows L2
/-! ### better -/
def spBetter (K : PySem.W.Frag) : Sp := fun vs H Q _ => ∃ (v1 v2 : V) (r t : TE.Run), vs = [v1, v2] ∧ RunAt K H v1 r ∧ RunAt K H v2 t ∧ ∀ v, RunAt K H v (TE.better r t) → Q v H
section
variable {P : Program} {w : World} {K : PySem.W.Frag} {mg : Str → Option Value} {base : Heap} {c Pt : Addr}
theorem scB : FnScope ["run", "other"] ["run", "other"] (defScope sBetter) := ⟨rfl, rfl, rfl, by decide +kernel, rfl, by decide +kernel, by decide +kernel⟩
theorem ok_better {f : Addr} {fd : FuncData} (F : Fun K "better" "better" sBetter f fd) : FnOk P w K mg base CX0 1 f fd ["run", "other"] (spBetter K) := by
  refine F.ok scB (fun vs H Q E h => ?_) (fun cdv A outer s H vs Q E hr h => ?_)
  · obtain ⟨v1, v2, r, t, rfl, _⟩ := h
    rfl
  · obtain ⟨v1, v2, ⟨r1, r2, r3⟩, ⟨t1, t2, t3⟩, rfl, ⟨a, rfl, hA⟩, ⟨b, rfl, hB⟩, k⟩ := h
    refine ⟨_, pss_cons (ps_if (pt_cmpR op_gt (pe_ix ix_tup (pv 1) pe_int (fun _ _ => rfl)) (pe_ix ix_tup (pv 0) pe_int (fun _ _ => rfl)) (nomark _)) (pss_one (ps_ret (pv 1))) pss_nil)
      (pss_cons (ps_if (PW.pt (pw_and (pt_cmpR op_eq (pe_ix ix_tup (pv 1) pe_int (fun _ _ => rfl)) (pe_ix ix_tup (pv 0) pe_int (fun _ _ => rfl)) (nomark _)) (pw_and1 (pt_cmpR op_lt (pe_ix ix_tup (pv 1) pe_int (fun _ _ => rfl)) (pe_ix ix_tup (pv 0) pe_int (fun _ _ => rfl)) (nomark _))))) (pss_one (ps_ret (pv 1))) pss_nil)
      (pss_one (ps_ret (pv 0)))), ?_⟩
    have kB : TE.better (r1, r2, r3) (t1, t2, t3) = (t1, t2, t3) → Q (.ref b) H := fun e => k _ (by rw [e]; exact ⟨b, rfl, hB⟩)
    have kA : TE.better (r1, r2, r3) (t1, t2, t3) = (r1, r2, r3) → Q (.ref a) H := fun e => k _ (by rw [e]; exact ⟨a, rfl, hA⟩)
    refine ⟨_, rfl, b, _, _, _, rfl, rfl, hB, at_of (j := 0) rfl rfl, _, rfl, a, _, _, _, rfl, rfl, hA, at_of (j := 0) rfl rfl, _, _, rfl, rfl, _, rfl, ?_⟩
    refine ite2 (fun hc => ?_) (fun hc => ?_)
    · have hc : ((r1 : Nat) : Int) < (t1 : Nat) := of_decide_eq_true hc
      exact ⟨_, rfl, kB (by unfold TE.better; rw [if_pos (by simp only; omega)])⟩
    · have hc : ¬ ((r1 : Nat) : Int) < (t1 : Nat) := fun z => hc (decide_eq_true z)
      refine ⟨_, rfl, b, _, _, _, rfl, rfl, hB, at_of (j := 0) rfl rfl, _, rfl, a, _, _, _, rfl, rfl, hA, at_of (j := 0) rfl rfl, rfl, _, rfl, ?_⟩
      rw [dec_eq]
      refine ite2 (fun hd => ?_) (fun hd => ?_)
      · have hd : ((t1 : Nat) : Int) = (r1 : Nat) := of_decide_eq_true hd
        refine ⟨_, rfl, b, _, _, _, rfl, rfl, hB, at_of (j := 1) rfl rfl, _, rfl, a, _, _, _, rfl, rfl, hA, at_of (j := 1) rfl rfl, _, _, rfl, rfl, _, rfl, ?_⟩
        refine ite2 (fun he => ?_) (fun he => ?_)
        · have he : ((t2 : Nat) : Int) < (r2 : Nat) := of_decide_eq_true he
          exact ⟨_, rfl, kB (by unfold TE.better; rw [if_neg (by simp only; omega), if_pos (by simp only; omega)])⟩
        · have he : ¬ ((t2 : Nat) : Int) < (r2 : Nat) := fun z => he (decide_eq_true z)
          exact ⟨_, rfl, kA (by unfold TE.better; rw [if_neg (by simp only; omega), if_neg (by simp only; omega)])⟩
      · have hd : ¬ ((t1 : Nat) : Int) = (r1 : Nat) := fun z => hd (decide_eq_true z)
        exact iteF ⟨_, rfl, kA (by unfold TE.better; rw [if_neg (by simp only; omega), if_neg (by simp only; omega)])⟩
end
/-! ### best_runs -/
def BestAt (rs : List TE.Run) (bs : List TE.Run) : Prop := ∀ c b, bs[c]? = some b → TE.Best (fun r => r ∈ rs ∧ c ≤ r.2.2) b
def spBest (K : PySem.W.Frag) : Sp := fun vs H Q _ => ∃ (a : Addr) (S : List Nat), vs = [.ref a] ∧ SqL K H a (nv S) ∧ 0 < S.length ∧ S.getD 0 0 = 0 ∧ S.length ≤ 2 ^ 19 ∧
  ∀ (p : Addr) (H' : Hp) (ys : List V) (bs rs : List TE.Run), Same H H' → H p = none → H' p = some (.lst ys) → Ls (RunAt K H') ys bs → bs.length = S.length + 1 → TE.Runs (gl S) S.length rs → BestAt rs bs → Q (.ref p) H'
/-- a global tuple of three noughts -/
def NoRun (K : PySem.W.Frag) (mg : Str → Option Value) : Prop := ∃ nr, mg "NO_RUN" = some (.ref nr) ∧ ∀ H, SqT K H nr [.int 0, .int 0, .int 0]
def BI1 (K : PySem.W.Frag) (n : Nat) (rs : List TE.Run) (H : Hp) (a q : Addr) (i : Nat) (σ : L2.St) (H' : Hp) : Prop := ∃ (v3 v4 : Option V) (ys : List V) (bs : List TE.Run),
  σ = [some (.ref a), some (.int (n : Nat)), some (.ref q), v3, v4] ∧ (∀ b o, H b = some o → b ≠ q → H' b = some o) ∧ H' q = some (.lst ys) ∧ Ls (RunAt K H') ys bs ∧ bs.length = n + 1 ∧ ∀ c b, bs[c]? = some b → TE.Best (fun r => r ∈ rs.take i ∧ r.2.2 = c) b
def BI2 (K : PySem.W.Frag) (n : Nat) (rs : List TE.Run) (H : Hp) (a q : Addr) (v3 : Option V) (i : Nat) (σ : L2.St) (H' : Hp) : Prop := ∃ (v4 : Option V) (ys : List V) (bs : List TE.Run),
  σ = [some (.ref a), some (.int (n : Nat)), some (.ref q), v3, v4] ∧ (∀ b o, H b = some o → b ≠ q → H' b = some o) ∧ H' q = some (.lst ys) ∧ Ls (RunAt K H') ys bs ∧ bs.length = n + 1 ∧ ∀ c b, bs[c]? = some b → TE.Best (fun r => r ∈ rs ∧ (if n - i ≤ c then c ≤ r.2.2 else r.2.2 = c)) b
section
variable {P : Program} {w : World} {K : PySem.W.Frag} {mg : Str → Option Value} {base : Heap} {c Pt : Addr}
theorem scE : FnScope ["shared", "n", "best", "run", "count"] ["shared"] (defScope sBest) := ⟨rfl, rfl, rfl, by decide +kernel, rfl, by decide +kernel, by decide +kernel⟩
theorem runAt_upd {K : PySem.W.Frag} {H : Hp} {q : Addr} {ys : List V} {o : HO} {v : V} {r : TE.Run} (hq : H q = some (.lst ys)) (h : RunAt K H v r) : RunAt K (upd H q o) v r := let ⟨a, e, s⟩ := h; ⟨a, e, sqT_upd hq s⟩
theorem runAt_same {K : PySem.W.Frag} {H H' : Hp} {v : V} {r : TE.Run} (s : Same H H') (h : RunAt K H v r) : RunAt K H' v r := let ⟨a, e, t⟩ := h; ⟨a, e, sqT_same s t⟩
theorem ok_best {f : Addr} {fd : FuncData} (F : Fun K "best_runs" "best_runs" sBest f fd) (T : Txt K mg base c Pt) (NR : NoRun K mg) (C1 : Cal P w K mg base 1 "all_runs" ["shared"] (spAllRuns K)) (C2 : Cal P w K mg base 1 "better" ["run", "other"] (spBetter K)) :
    FnOk P w K mg base CX0 2 f fd ["shared"] (spBest K) := by
  obtain ⟨f1, fd1, mg1, kp1, b1, G1⟩ := C1
  obtain ⟨f2, fd2, mg2, kp2, b2, G2⟩ := C2
  obtain ⟨nr, mgn, hnr⟩ := NR
  refine F.ok scE (fun vs H Q E h => ?_) (fun cdv A outer s H vs Q E hr h => ?_)
  · obtain ⟨a, S, rfl, _⟩ := h
    rfl
  · obtain ⟨a, S, rfl, hA, hn, h0, hz, k⟩ := h
    refine ⟨_, pss_cons (ps_set (i := 1) scE.nd rfl (Or.inl rfl) (pe_callB call_len_seq rfl T.len PySem.boot_len (pa_cons (pv 0) pa_nil)))
      (pss_cons (ps_set (i := 2) scE.nd rfl (Or.inl rfl) (pe_op op_rep (pe_lst (pa_cons (pe_glob (v := .ref nr) rfl mgn rfl) pa_nil)) (pe_op op_add (pv 1) pe_int)))
      (pss_cons (ps_for PassesOwn.never rfl (pi_list (pe_call G1 hr rfl mg1 kp1 b1 .nil pass0 (pa_cons (pv 0) pa_nil))) (pg_name (i := 3) scE.nd rfl (Or.inl rfl))
        (pss_one (ps_asg (pe_call G2 hr rfl mg2 kp2 b2 .nil pass0 (pa_cons (pe_ix ix_list (pv 2) (pe_ix ix_tup (pv 3) pe_int (fun _ _ => rfl)) (fun _ _ => rfl)) (pa_cons (pv 3) pa_nil))) (pg_sub (pv 2) (pe_ix ix_tup (pv 3) pe_int (fun _ _ => rfl)) set_list))))
      (pss_cons (ps_for PassesOwn.never rfl (pi_range3 rfl T.range (pa_cons (pe_op op_sub (pv 1) pe_int) (pa_cons (pe_un un_neg pe_int) (pa_cons (pe_un un_neg pe_int) pa_nil)))) (pg_name (i := 4) scE.nd rfl (Or.inl rfl))
        (pss_one (ps_asg (pe_call G2 hr rfl mg2 kp2 b2 .nil pass0 (pa_cons (pe_ix ix_list (pv 2) (pv 4) (fun _ _ => rfl)) (pa_cons (pe_ix ix_list (pv 2) (pe_op op_add (pv 4) pe_int) (fun _ _ => rfl)) pa_nil))) (pg_sub (pv 2) (pv 4) set_list))))
      (pss_one (ps_ret (pv 2)))))), ?_⟩
    refine ⟨_, rfl, a, _, rfl, .inl hA, ?_⟩
    rw [nv_len]
    refine ⟨by show 1 ≤ sizeLine; decide, fun l hl => ⟨_, rfl, _, _, rfl, rfl, l, _, _, rfl, rfl, upd_same, by omega, by omega, by rw [sizeLine_eq]; simp; omega, fun q hq => ?_⟩⟩
    have hq0 : H q = none := (same_upd hl).free hq
    rw [show ((S.length : Int) + 1).toNat = S.length + 1 by omega, List.flatten_replicate_singleton]
    have S1 : Same H (upd (upd H l (.lst [.ref nr])) q (.lst (List.replicate (S.length + 1) (.ref nr)))) := (same_upd hl).trans (same_upd hq)
    -- for run in all_runs(shared)
    refine ⟨_, rfl, a, S, rfl, S1.seq hA, hn, h0, by omega, fun ra H2 xs rs s2 n2 e2 lr hrs => ⟨ra, rfl, ⟨xs, SqL.of e2⟩, ?_⟩⟩
    have hqra : ra ≠ q := fun z => by rw [z, upd_same] at n2; cases n2
    have hq2 : H2 q = some (.lst (List.replicate (S.length + 1) (.ref nr))) := s2 _ _ upd_same
    have keep2 : ∀ b o, H b = some o → b ≠ q → H2 b = some o := fun b o e _ => s2 _ _ (S1 b o e)
    refine for_list (K := K) (a := ra) (xs := xs) (fun i σ H' => BI1 K S.length rs H a q i σ H' ∧ H' ra = some (.lst xs) ∧ Ls (RunAt K H') xs rs)
      ⟨⟨none, none, _, List.replicate (S.length + 1) (0, 0, 0), rfl, keep2, hq2, ⟨by simp, fun i r hr => ?_⟩, by simp, fun c b hb => ?_⟩, e2, lr⟩ (fun i σ H' _ h => SqL.of h.2.1) ?_ ?_
    · rw [List.getElem?_replicate] at hr
      split at hr
      · rename_i hi; cases hr
        exact ⟨.ref nr, by rw [List.getElem?_replicate, if_pos hi], nr, rfl, hnr _⟩
      · cases hr
    · rw [List.getElem?_replicate] at hb
      split at hb
      · cases hb
        exact TE.Best.none.iff fun r => ⟨fun z => z.elim, fun z => by simp at z⟩
      · cases hb
    · rintro i y σ H' hi ⟨⟨v3, v4, ys, bs, rfl, keep, hys, lb, hbl, hB⟩, hra, lr'⟩
      have hil : i < rs.length := by rw [← lr'.1]; exact (List.getElem?_eq_some_iff.mp hi).1
      obtain ⟨⟨r1, r2, r3⟩, hr⟩ : ∃ r, rs[i]? = some r := ⟨_, List.getElem?_eq_getElem hil⟩
      obtain ⟨v, hv, hvr⟩ := lr'.2 i _ hr
      rw [hi] at hv; cases hv
      have run := hrs.ok _ (List.mem_of_getElem? hr)
      have hle := run.le
      simp only at hle
      obtain ⟨b0, hb0⟩ : ∃ b, bs[r3]? = some b := ⟨_, List.getElem?_eq_getElem (by omega)⟩
      obtain ⟨w0, hw0, hwr⟩ := lb.2 r3 _ hb0
      have hvr2 := hvr
      obtain ⟨ar, rfl, hT⟩ := hvr
      refine ⟨_, rfl, _, rfl, ar, _, _, _, rfl, rfl, hT, at_of (j := 2) rfl rfl, q, _, _, _, rfl, rfl, SqL.of hys, at_of (j := r3) rfl hw0, _, rfl, w0, .ref ar, b0, (r1, r2, r3), rfl, hwr, hvr2, fun nv' hnv => ?_⟩
      refine ⟨_, rfl, _, rfl, ar, _, _, _, rfl, rfl, hT, at_of (j := 2) rfl rfl, q, _, _, _, rfl, rfl, hys, ixN_nat (j := r3) (by rw [lb.1]; omega), ?_⟩
      refine ⟨⟨_, _, ys.set r3 nv', bs.set r3 (TE.better b0 (r1, r2, r3)), rfl, fun b o e hb => by rw [upd_ne hb]; exact keep b o e hb, upd_same, (ls_runs_upd hys lb).set r3 (runAt_upd hys hnv), by simp [hbl], fun c b hb => ?_⟩, by rw [upd_ne hqra]; exact hra, ls_runs_upd hys lr'⟩
      rw [List.getElem?_set] at hb
      have tk : ∀ r, r ∈ rs.take (i + 1) ↔ r ∈ rs.take i ∨ r = (r1, r2, r3) := fun r => by rw [take_snoc' hr, List.mem_append, List.mem_singleton]
      by_cases e : r3 = c
      · subst e
        rw [if_pos rfl, if_pos (by omega)] at hb
        cases hb
        refine ((hB r3 b0 hb0).join (TE.Best.one (r := (r1, r2, r3)))).iff fun r => ?_
        rw [tk]
        constructor
        · rintro (h | h)
          · exact ⟨.inl h.1, h.2⟩
          · exact ⟨.inr h, by rw [h]⟩
        · rintro ⟨h | h, h'⟩
          · exact .inl ⟨h, h'⟩
          · exact .inr h
      · rw [if_neg e] at hb
        refine (hB c b hb).iff fun r => ?_
        rw [tk]
        constructor
        · rintro ⟨h, h'⟩; exact ⟨.inl h, h'⟩
        · rintro ⟨h | h, h'⟩
          · exact ⟨h, h'⟩
          · rw [h] at h'; exact (e h').elim
    · rintro σ H' ⟨⟨v3, v4, ys, bs, rfl, keep, hys, lb, hbl, hB⟩, hra, lr'⟩
      rw [lr'.1, List.take_length] at hB
      -- for count in range(n - 1, -1, -1)
      refine ⟨_, rfl, _, _, rfl, rfl, _, rfl, _, rfl, (S.length : Int) - 1, -1, -1, S.length, rfl, ?_, ?_⟩
      · have := RgC.neg (i := (S.length : Int) - 1) (j := -1) (by omega) (by omega) (by omega) (by omega)
        rw [show ((S.length : Int) - 1 - -1).toNat = S.length by omega] at this
        exact this
      refine for_rangeC (lo := (S.length : Int) - 1) (c := -1) (n := S.length) (BI2 K S.length rs H a q v3) ⟨_, ys, bs, rfl, keep, hys, lb, hbl, fun c b hb => (hB c b hb).iff fun r => ?_⟩ ?_ ?_
      · constructor
        · rintro ⟨h, h'⟩
          refine ⟨h, ?_⟩
          split <;> omega
        · rintro ⟨h, h'⟩
          refine ⟨h, ?_⟩
          split at h'
          · have := (hrs.ok r h).le
            have hc : c < bs.length := (List.getElem?_eq_some_iff.mp hb).1
            have := (hrs.ok r h).two
            omega
          · exact h'
      · rintro i σ H3 hi ⟨v4, ys, bs, rfl, keep, hys, lb, hbl, hB⟩
        have ec : (S.length : Int) - 1 + (i : Nat) * -1 = ((S.length - 1 - i : Nat) : Int) := by omega
        obtain ⟨b0, hb0⟩ : ∃ b, bs[S.length - 1 - i]? = some b := ⟨_, List.getElem?_eq_getElem (by omega)⟩
        obtain ⟨b1', hb1⟩ : ∃ b, bs[S.length - 1 - i + 1]? = some b := ⟨_, List.getElem?_eq_getElem (by omega)⟩
        obtain ⟨w0, hw0, hwr0⟩ := lb.2 _ _ hb0
        obtain ⟨w1, hw1, hwr1⟩ := lb.2 _ _ hb1
        refine ⟨_, rfl, _, rfl, q, _, _, _, rfl, rfl, SqL.of hys, at_of (j := S.length - 1 - i) ec hw0, _, rfl, _, rfl, _, _, rfl, rfl, q, _, _, _, rfl, rfl, SqL.of hys, at_of (j := S.length - 1 - i + 1) (by omega) hw1, w0, w1, b0, b1', rfl, hwr0, hwr1, fun nv' hnv => ?_⟩
        refine ⟨_, rfl, _, rfl, q, _, _, _, rfl, rfl, hys, ixN_of ec (by rw [lb.1]; omega), ?_⟩
        refine ⟨_, ys.set (S.length - 1 - i) nv', bs.set (S.length - 1 - i) (TE.better b0 b1'), rfl, fun b o e hb => by rw [upd_ne hb]; exact keep b o e hb, upd_same, (ls_runs_upd hys lb).set _ (runAt_upd hys hnv), by simp [hbl], fun c b hb => ?_⟩
        rw [List.getElem?_set] at hb
        by_cases e : S.length - 1 - i = c
        · subst e
          rw [if_pos rfl, if_pos (by omega)] at hb
          cases hb
          refine ((hB _ b0 hb0).join (hB _ b1' hb1)).iff fun r => ?_
          rw [if_neg (by omega), if_pos (by omega), if_pos (by omega)]
          constructor
          · rintro (h | h)
            · exact ⟨h.1, by omega⟩
            · exact ⟨h.1, by omega⟩
          · rintro ⟨h, h'⟩
            by_cases e : r.2.2 = S.length - 1 - i
            · exact .inl ⟨h, e⟩
            · exact .inr ⟨h, by omega⟩
        · rw [if_neg e] at hb
          refine (hB c b hb).iff fun r => ?_
          by_cases e2 : S.length - i ≤ c
          · rw [if_pos e2, if_pos (by omega)]
          · rw [if_neg e2, if_neg (by omega)]
      · rintro σ H3 ⟨v4, ys, bs, rfl, keep, hys, lb, hbl, hB⟩
        refine ⟨_, rfl, ?_⟩
        refine k q H3 ys bs rs (fun b o e => keep b o e (ne_of_none e hq0)) hq0 hys lb hbl hrs fun c b hb => (hB c b hb).iff fun r => ?_
        rw [if_pos (by omega)]
end
end W
end

section
set_option Elab.async false
set_option linter.all false
set_option maxRecDepth 100000
set_option maxHeartbeats 2000000
namespace W
open PySem PySem.Spec PyProof.Rows L2
/-! ### pieces.py -/
abbrev sBefore : Stmt := top 8
abbrev sNew : Stmt := top 9
abbrev sBehind : Stmt := top 10
def pbs (t o : List Nat) : List Nat := (List.range (t.length + 1)).map (TE.pb t o)
theorem pbs_len (t o : List Nat) : (pbs t o).length = t.length + 1 := by unfold pbs; rw [List.length_map, List.length_range]
theorem pbs_get {t o : List Nat} {k : Nat} (h : k < t.length + 1) : (pbs t o).getD k 0 = TE.pb t o k := by
  unfold pbs
  rw [List.getD_eq_getElem?_getD, List.getElem?_map, List.getElem?_range h]; rfl
theorem map_range_getD (g : Nat → Nat) {n k : Nat} (h : k < n) : ((List.range n).map g).getD k 0 = g k := by
  rw [List.getD_eq_getElem?_getD, List.getElem?_map, List.getElem?_range h]; rfl
def spBefore (K : PySem.W.Frag) : Sp := fun vs H Q _ => ∃ (a b : Addr) (t o : List Nat), vs = [.ref a, .ref b] ∧ SqL K H a (nv o) ∧ SqL K H b (nv (shs t o)) ∧ Sw16.Ends t o ∧ t.length ≤ 2 ^ 20 ∧
  ∀ (p : Addr) (H' : Hp), Same H H' → H p = none → H' p = some (.lst (nv (pbs t o))) → Q (.ref p) H'
def spNew (K : PySem.W.Frag) : Sp := fun vs H Q _ => ∃ (a : Addr) (B : List Nat) (k : Nat), vs = [.ref a, .int k] ∧ SqL K H a (nv B) ∧ 2 ≤ B.length ∧ B.getD 0 0 ≤ k ∧ k < B.getD (B.length - 1) 0 ∧
  ∀ f : Nat, f + 1 < B.length → B.getD f 0 ≤ k → k < B.getD (f + 1) 0 → Q (.int f) H
def spBehind (K : PySem.W.Frag) : Sp := fun vs H Q _ => ∃ (a : Addr) (S : List Nat) (f len : Nat), vs = [.ref a, .int f, .int len] ∧ SqL K H a (nv S) ∧ f < S.length ∧ S.length ≤ 2 ^ 20 ∧
  ∀ b : Nat, f < b → b ≤ S.length → (∀ k, f < k → k < b → len ≤ S.getD k 0) → (b < S.length → S.getD b 0 < len) → Q (.int b) H
section
variable {P : Program} {w : World} {K : PySem.W.Frag} {mg : Str → Option Value} {base : Heap} {c Pt : Addr}
theorem scPB : FnScope ["order", "shared", "n", "before", "k"] ["order", "shared"] (defScope sBefore) := ⟨rfl, rfl, rfl, by decide +kernel, rfl, by decide +kernel, by decide +kernel⟩
theorem ok_before {f : Addr} {fd : FuncData} (F : Fun K "pieces_before" "pieces_before" sBefore f fd) (T : Txt K mg base c Pt) : FnOk P w K mg base CX0 1 f fd ["order", "shared"] (spBefore K) := by
  refine F.ok scPB (fun vs H Q E h => ?_) (fun cdv A outer s H vs Q E hr h => ?_)
  · obtain ⟨a, b, t, o, rfl, _⟩ := h
    rfl
  · obtain ⟨a, b, t, o, rfl, hA, hB, he, hz, k⟩ := h
    have hol := TE.ends_length he
    refine ⟨_, pss_cons (ps_set (i := 2) scPB.nd rfl (Or.inl rfl) (pe_callB call_len_seq rfl T.len PySem.boot_len (pa_cons (pv 0) pa_nil)))
      (pss_cons (ps_set (i := 3) scPB.nd rfl (Or.inl rfl) (pe_lst (pa_cons pe_int pa_nil)))
      (pss_cons (ps_for PassesOwn.never rfl (pi_range1 rfl T.range (pa_cons (pv 2) pa_nil)) (pg_name (i := 4) scPB.nd rfl (Or.inl rfl))
        (pss_one (ps_expr (pe_bm PySem.F.plainAttrs_list PySem.F.slot_list_append PySem.F.type_list_append mt_append (pv 3) (pa_cons (pe_op op_sub (pe_op op_sub (pe_op op_add (pe_ix ix_list (pv 3) (pv 4) (fun _ _ => rfl)) (pv 2)) (pe_ix ix_list (pv 0) (pv 4) (fun _ _ => rfl))) (pe_ix ix_list (pv 1) (pv 4) (fun _ _ => rfl))) pa_nil)))))
      (pss_one (ps_ret (pv 3))))), ?_⟩
    refine ⟨_, rfl, a, _, rfl, .inl hA, ⟨by show 1 ≤ sizeLine; decide, fun q hq => ?_⟩⟩
    rw [nv_len]
    refine ⟨_, rfl, (o.length : Int), rfl, by omega, by omega, ?_⟩
    refine for_range (lo := 0) (n := ((o.length : Nat) : Int).toNat) (fun i σ H' => ∃ (v : Option V), σ = [some (.ref a), some (.ref b), some (.int (o.length : Nat)), some (.ref q), v] ∧ Same H H' ∧ H' q = some (.lst (nv ((List.range (i + 1)).map (TE.pb t o)))))
      ⟨none, rfl, same_upd hq, upd_same⟩ ?_ ?_
    · rintro i σ H' hi ⟨v, rfl, S2, hq'⟩
      have hi' : i < t.length := by omega
      have h1 := TE.ends_lt he (k := i) hi'
      have h2 := TE.sh_le (s := t) (o := o) i hi'
      refine ⟨_, rfl, .inl ⟨rfl, _, SqL.of hq'⟩, _, rfl, _, rfl, q, _, _, _, rfl, rfl, SqL.of hq', nat_at (k := i) (by omega) (by rw [List.length_map, List.length_range]; omega), _, rfl, _, _, rfl, rfl,
        _, rfl, _, rfl, a, _, _, _, rfl, rfl, S2.seq hA, nat_at (k := i) (by omega) (by omega), _, _, rfl, rfl, _, rfl, _, rfl, b, _, _, _, rfl, rfl, S2.seq hB, nat_at (k := i) (by omega) (by rw [shs_len]; omega), _, _, rfl, rfl,
        q, _, _, rfl, rfl, hq', (by rw [nv_len, List.length_map, List.length_range, sizeLine_eq]; omega), ?_⟩
      refine ⟨_, rfl, same_upd' S2 hq, ?_⟩
      rw [upd_same, shs_get hi', map_range_getD _ (by omega)]
      have e : ((TE.pb t o i : Nat) : Int) + (o.length : Nat) - (o.getD i 0 : Nat) - (TE.sh t o i : Nat) = ((TE.pb t o (i + 1) : Nat) : Int) := by
        show _ = ((TE.pb t o i + (t.length - o.getD i 0 - TE.sh t o i) : Nat) : Int)
        omega
      show some (HO.lst (nv ((List.range (i + 1)).map (TE.pb t o)) ++ [V.int (((TE.pb t o i : Nat) : Int) + (o.length : Nat) - (o.getD i 0 : Nat) - (TE.sh t o i : Nat))])) = _
      rw [e, nv_snoc, List.range_succ (n := i + 1), List.map_append]
      rfl
    · rintro σ H' ⟨v, rfl, S2, hq'⟩
      refine ⟨_, rfl, k q H' S2 hq ?_⟩
      rw [hq', Int.toNat_natCast, hol]
      rfl
theorem scPN : FnScope ["before", "k", "low", "high", "middle"] ["before", "k"] (defScope sNew) := ⟨rfl, rfl, rfl, by decide +kernel, rfl, by decide +kernel, by decide +kernel⟩
theorem ok_new {f : Addr} {fd : FuncData} (F : Fun K "end_with_new" "end_with_new" sNew f fd) (T : Txt K mg base c Pt) : FnOk P w K mg base CX0 1 f fd ["before", "k"] (spNew K) := by
  refine F.ok scPN (fun vs H Q E h => ?_) (fun cdv A outer s H vs Q E hr h => ?_)
  · obtain ⟨a, B, k, rfl, _⟩ := h
    rfl
  · obtain ⟨a, B, kk, rfl, hA, hl, h0, h1, k⟩ := h
    refine ⟨_, pss_cons (ps_set (i := 2) scPN.nd rfl (Or.inl rfl) pe_int)
      (pss_cons (ps_set (i := 3) scPN.nd rfl (Or.inl rfl) (pe_op op_sub (pe_callB call_len_seq rfl T.len PySem.boot_len (pa_cons (pv 0) pa_nil)) pe_int))
      (pss_cons (ps_while PassesOwn.never (pt_cmpR op_gt (pe_op op_sub (pv 3) (pv 2)) pe_int (nomark _))
        (pss_cons (ps_set (i := 4) scPN.nd rfl (Or.inl rfl) (pe_op op_fdiv (pe_op op_add (pv 2) (pv 3)) pe_int))
        (pss_one (ps_if (pt_cmpR op_le (pe_ix ix_list (pv 0) (pv 4) (fun _ _ => rfl)) (pv 1) (nomark _)) (pss_one (ps_set (i := 2) scPN.nd rfl (Or.inl rfl) (pv 4))) (pss_one (ps_set (i := 3) scPN.nd rfl (Or.inl rfl) (pv 4)))))))
      (pss_one (ps_ret (pv 2))))), ?_⟩
    refine ⟨_, rfl, a, _, rfl, .inl hA, _, _, rfl, rfl, ?_⟩
    rw [nv_len]
    refine ⟨fun m σ H' => ∃ (lo hi : Nat) (v : Option V), m = hi - lo ∧ H' = H ∧ σ = [some (.ref a), some (.int kk), some (.int lo), some (.int hi), v] ∧ lo < hi ∧ hi < B.length ∧ B.getD lo 0 ≤ kk ∧ kk < B.getD hi 0,
      ⟨_, 0, B.length - 1, none, rfl, rfl, by
        show [some (V.ref a), some (V.int kk), some (V.int 0), some (V.int ((B.length : Int) - 1)), none] = _
        rw [show ((B.length : Nat) : Int) - 1 = ((B.length - 1 : Nat) : Int) by omega]; rfl, by omega, by omega, h0, h1⟩, ?_⟩
    rintro m σ H' ⟨lo, hi, v, rfl, rfl, rfl, q1, q2, q3, q4⟩
    refine ⟨_, rfl, _, rfl, _, _, rfl, rfl, _, _, rfl, rfl, _, rfl, ?_⟩
    refine ite2 (fun hc => ?_) (fun hc => ?_)
    · have hc : ((hi : Nat) : Int) - (lo : Nat) > 1 := of_decide_eq_true hc
      refine ⟨fun σ' H'' => ∃ (lo' hi' : Nat) (v : Option V), hi' - lo' < hi - lo ∧ H'' = H' ∧ σ' = [some (.ref a), some (.int kk), some (.int lo'), some (.int hi'), v] ∧ lo' < hi' ∧ hi' < B.length ∧ B.getD lo' 0 ≤ kk ∧ kk < B.getD hi' 0,
        fun σ' H'' ⟨lo', hi', v, p1, p2, p3, p4⟩ => ⟨_, p1, lo', hi', v, rfl, p2, p3, p4⟩, ?_⟩
      obtain ⟨md, hmd⟩ : ∃ md : Nat, (((lo : Nat) : Int) + (hi : Nat)) / 2 = (md : Nat) := ⟨(lo + hi) / 2, by omega⟩
      refine ⟨_, rfl, _, rfl, _, _, rfl, rfl, _, _, rfl, rfl, ⟨by decide, by decide⟩, ?_⟩
      have hm1 : lo < md := by omega
      have hm2 : md < hi := by omega
      refine ⟨_, rfl, _, rfl, a, _, _, _, rfl, rfl, hA, nat_at (k := md) hmd (by omega), _, rfl, _, _, rfl, rfl, _, rfl, ?_⟩
      refine ite2 (fun hd => ?_) (fun hd => ?_)
      · have hd : ((B.getD md 0 : Nat) : Int) ≤ (kk : Nat) := of_decide_eq_true hd
        refine ⟨_, rfl, md, hi, some (.int md), by omega, rfl, ?_, by omega, q2, by omega, q4⟩
        show [some (V.ref a), some (V.int kk), some (V.int ((((lo : Nat) : Int) + (hi : Nat)) / 2)), some (V.int hi), some (V.int ((((lo : Nat) : Int) + (hi : Nat)) / 2))] = _
        rw [hmd]
      · have hd : ¬ ((B.getD md 0 : Nat) : Int) ≤ (kk : Nat) := fun z => hd (decide_eq_true z)
        refine ⟨_, rfl, lo, md, some (.int md), by omega, rfl, ?_, by omega, by omega, q3, by omega⟩
        show [some (V.ref a), some (V.int kk), some (V.int lo), some (V.int ((((lo : Nat) : Int) + (hi : Nat)) / 2)), some (V.int ((((lo : Nat) : Int) + (hi : Nat)) / 2))] = _
        rw [hmd]
    · have hc : ¬ ((hi : Nat) : Int) - (lo : Nat) > 1 := fun z => hc (decide_eq_true z)
      have e : hi = lo + 1 := by omega
      subst e
      exact ⟨_, rfl, k lo q2 q3 q4⟩
theorem scPR : FnScope ["shared", "first", "length", "k"] ["shared", "first", "length"] (defScope sBehind) := ⟨rfl, rfl, rfl, by decide +kernel, rfl, by decide +kernel, by decide +kernel⟩
theorem ok_behind {f : Addr} {fd : FuncData} (F : Fun K "run_behind" "run_behind" sBehind f fd) (T : Txt K mg base c Pt) : FnOk P w K mg base CX0 1 f fd ["shared", "first", "length"] (spBehind K) := by
  refine F.ok scPR (fun vs H Q E h => ?_) (fun cdv A outer s H vs Q E hr h => ?_)
  · obtain ⟨a, S, f, len, rfl, _⟩ := h
    rfl
  · obtain ⟨a, S, f, len, rfl, hA, hf, hz, k⟩ := h
    refine ⟨_, pss_cons (ps_for PassesOwn.never rfl (pi_range2 rfl T.range (pa_cons (pe_op op_add (pv 1) pe_int) (pa_cons (pe_callB call_len_seq rfl T.len PySem.boot_len (pa_cons (pv 0) pa_nil)) pa_nil))) (pg_name (i := 3) scPR.nd rfl (Or.inl rfl))
        (pss_one (ps_if (pt_cmpR op_lt (pe_ix ix_list (pv 0) (pv 3) (fun _ _ => rfl)) (pv 2) (nomark _)) (pss_one (ps_ret (pv 3))) pss_nil)))
      (pss_one (ps_ret (pe_callB call_len_seq rfl T.len PySem.boot_len (pa_cons (pv 0) pa_nil)))), ?_⟩
    refine ⟨_, rfl, _, _, rfl, rfl, _, rfl, a, _, rfl, .inl hA, (f : Int) + 1, (S.length : Int), by rw [nv_len], ⟨by omega, by omega, by omega, by omega⟩, ?_⟩
    refine for_range (lo := (f : Int) + 1) (n := ((S.length : Int) - ((f : Int) + 1)).toNat) (fun i σ H' => ∃ (v : Option V), H' = H ∧ σ = [some (.ref a), some (.int f), some (.int len), v] ∧ ∀ j, f < j → j < f + 1 + i → len ≤ S.getD j 0)
      ⟨none, rfl, rfl, fun j h1 h2 => by omega⟩ ?_ ?_
    · rintro i σ H' hi ⟨v, rfl, rfl, hall⟩
      refine ⟨_, rfl, _, rfl, a, _, _, _, rfl, rfl, hA, nat_at (k := f + 1 + i) (by omega) (by omega), _, rfl, _, _, rfl, rfl, _, rfl, ?_⟩
      refine ite2 (fun hc => ?_) (fun hc => ?_)
      · have hc : ((S.getD (f + 1 + i) 0 : Nat) : Int) < (len : Nat) := of_decide_eq_true hc
        refine ⟨_, rfl, ?_⟩
        have e : (f : Int) + 1 + (i : Nat) = ((f + 1 + i : Nat) : Int) := by omega
        show Q (.int ((f : Int) + 1 + (i : Nat))) _
        rw [e]
        exact k (f + 1 + i) (by omega) (by omega) hall (fun _ => by omega)
      · have hc : ¬ ((S.getD (f + 1 + i) 0 : Nat) : Int) < (len : Nat) := fun z => hc (decide_eq_true z)
        refine ⟨_, rfl, rfl, fun j h1 h2 => ?_⟩
        by_cases e : j = f + 1 + i
        · subst e; omega
        · exact hall j h1 (by omega)
    · rintro σ H' ⟨v, rfl, rfl, hall⟩
      refine ⟨_, rfl, a, _, rfl, .inl hA, ?_⟩
      rw [nv_len]
      exact k S.length hf (Nat.le_refl _) (fun j h1 h2 => hall j h1 (by omega)) (fun z => by omega)
end
end W
end

section
set_option Elab.async false
set_option linter.all false
set_option maxRecDepth 100000
set_option maxHeartbeats 2000000
namespace W
open PySem PySem.Spec PyProof.Rows L2
/-! ### turning.py -/
abbrev sTurn : Stmt := top 18
abbrev sBytes : Stmt := top 19
abbrev sBack : Stmt := top 20
/-- a global int -/
def GInt (mg : Str → Option Value) (x : Str) (i : Int) : Prop := ∃ u, mg x = some u ∧ RelV (.int i) u
theorem tb_at {t : List Nat} {p : Nat} (h : p < t.length) : atI (nv t) ((p : Int) - 1) = some (V.int (TE.tb t p : Nat)) := by
  unfold TE.tb
  by_cases h0 : p = 0
  · subst h0
    rw [if_pos rfl, List.getLast?_eq_getElem?, show ((0 : Nat) : Int) - 1 = -1 by omega, neg_at (by omega), List.getD_eq_getElem?_getD]
  · rw [if_neg h0]
    exact nat_at (by omega) (by omega)
def spTurn (K : PySem.W.Frag) : Sp := fun vs H Q _ => ∃ (a b : Addr) (t o : List Nat), vs = [.ref a, .ref b] ∧ SqL K H a (nv t) ∧ SqL K H b (nv o) ∧ Sw16.Ends t o ∧ t.length ≤ 2 ^ 20 ∧
  ∀ (p : Addr) (H' : Hp), Same H H' → H p = none → H' p = some (.lst (nv (o.map (TE.tb t)))) → Q (.ref p) H'
def spBytes (K : PySem.W.Frag) : Sp := fun vs H Q _ => ∃ (a : Addr) (t : List Nat) (f : Nat), vs = [.ref a, .int f] ∧ SqL K H a (nv t) ∧ f < t.length ∧ t.length ≤ 2 ^ 20 ∧
  ∀ (p : Addr) (H' : Hp), Same H H' → H p = none → H' p = some (.lst ((TE.colz t f).map V.int)) → Q (.ref p) H'
def spBack (K : PySem.W.Frag) (Pt : Addr) : Sp := fun vs H Q _ => ∃ (a : Addr) (t : List Nat) (f : Nat), vs = [.ref a, .int f] ∧ SqL K H a (nv t) ∧ f < t.length ∧ t.length ≤ 2 ^ 19 ∧ Tb Pt H ∧
  ∀ (p : Addr) (r : List Nat) (H' : Hp), Gr Pt H H' → H p = none → H' p = some (.lst (nv r)) → ((r.length = t.length ∧ Sw16.backOf t f = some r) ∨ (r.length < t.length ∧ Sw16.backOf t f = none)) → Q (.ref p) H'
section
variable {P : Program} {w : World} {K : PySem.W.Frag} {mg : Str → Option Value} {base : Heap} {c Pt : Addr}
/-- the comprehension's own names -/
def lcScope : Scope := match defBody sTurn with
  | [.Return (some (.ListComp _ _ sc _)) _] => sc
  | _ => { kind := .function, names := [], isGenerator := false, isCoroutine := false }
theorem blkTT : BlkOk ["text", "order", "place"] (defScope sTurn) lcScope [("place", 2)] := blkOk_by (by decide +kernel)
theorem scTT : FnScope ["text", "order", "place"] ["text", "order"] (defScope sTurn) := ⟨rfl, rfl, rfl, by decide +kernel, rfl, by decide +kernel, by decide +kernel⟩
theorem ok_turn {f : Addr} {fd : FuncData} (F : Fun K "turn_text" "turn_text" sTurn f fd) : FnOk P w K mg base CX0 1 f fd ["text", "order"] (spTurn K) := by
  refine F.ok scTT (fun vs H Q E h => ?_) (fun cdv A outer s H vs Q E hr h => ?_)
  · obtain ⟨a, b, t, o, rfl, _⟩ := h
    rfl
  · obtain ⟨a, b, t, o, rfl, hA, hB, he, hz, k⟩ := h
    have hol := TE.ends_length he
    refine ⟨_, pss_one (ps_ret (pe_lc (own := [("place", 2)]) (te := tOp (rIxL K) (tVar 0) (tOp (rI0 fun i j => .int (i - j)) (tVar 2) (tC (.int 1)))) rfl scTT.nd (pi_list (pv 1)) blkTT (fun _ _ _ _ _ => pg_name (i := 2) scTT.nd rfl (Or.inl rfl)) (fun _ _ _ _ _ => pts_nil)
      (fun _ _ _ _ _ => pe_ix ix_list (pv 0) (pe_op op_sub (pv 2) pe_int) (fun _ _ => rfl)))), ?_⟩
    refine ⟨_, rfl, b, rfl, ⟨_, hB⟩, fun q hq => ?_⟩
    refine lc_list (K := K) (a := b) (xs := nv o) (fun i H' => Same H H' ∧ H' q = some (.lst (nv ((o.take i).map (TE.tb t))))) ⟨same_upd hq, upd_same⟩ (fun i H' _ h => h.1.seq hB) ?_ ?_
    · rintro i x H' hx ⟨S2, hq'⟩
      have hi : i < o.length := by
        have := (List.getElem?_eq_some_iff.mp hx).1
        rwa [nv_len] at this
      rw [nv_get hi] at hx
      cases hx
      have hp := TE.ends_lt he (k := i) (by omega)
      refine ⟨rfl, ?_⟩
      unfold tYes
      dsimp only
      rw [if_pos rfl]
      refine ⟨_, rfl, _, rfl, _, _, rfl, rfl, a, _, _, _, rfl, rfl, S2.seq hA, tb_at hp, _, hq', by rw [nv_len, List.length_map, List.length_take, sizeLine_eq]; omega, same_upd' S2 hq, ?_⟩
      rw [upd_same, nv_snoc, List.take_add_one, List.map_append, List.getElem?_eq_getElem hi, List.getD_eq_getElem?_getD, List.getElem?_eq_getElem hi]
      rfl
    · rintro H' ⟨S2, hq'⟩
      rw [nv_len, List.take_of_length_le (Nat.le_refl _)] at hq'
      exact k q H' S2 hq hq'
theorem scTB : FnScope ["turned", "first"] ["turned", "first"] (defScope sBytes) := ⟨rfl, rfl, rfl, by decide +kernel, rfl, by decide +kernel, by decide +kernel⟩
theorem ok_bytes {f : Addr} {fd : FuncData} (F : Fun K "bytes_before" "bytes_before" sBytes f fd) (NB : GInt mg "NO_BYTE" (-1)) : FnOk P w K mg base CX0 1 f fd ["turned", "first"] (spBytes K) := by
  obtain ⟨u, hu, ru⟩ := NB
  refine F.ok scTB (fun vs H Q E h => ?_) (fun cdv A outer s H vs Q E hr h => ?_)
  · obtain ⟨a, t, f, rfl, _⟩ := h
    rfl
  · obtain ⟨a, t, f, rfl, hA, hf, hz, k⟩ := h
    refine ⟨_, pss_one (ps_ret (pe_op op_cat (pe_op op_cat (pe_op op_cat (pe_lst (pa_cons (pe_ix ix_list (pv 0) (pv 1) (fun _ _ => rfl)) pa_nil)) (pe_slice sl_list (pv 0) po_none (po_some (pv 1)))) (pe_lst (pa_cons (pe_glob rfl hu ru) pa_nil)))
      (pe_slice sl_list (pv 0) (po_some (pe_op op_add (pv 1) pe_int)) po_none))), ?_⟩
    refine ⟨_, rfl, _, rfl, a, _, _, _, rfl, rfl, hA, nat_at (k := f) rfl hf, by show 1 ≤ sizeLine; decide, fun l1 n1 => ?_⟩
    have S1 := same_upd (o := .lst [V.int (t.getD f 0 : Nat)]) n1
    refine ⟨_, rfl, _, rfl, _, rfl, a, _, rfl, S1.seq hA, fun l2 n2 => ?_⟩
    have S2 := S1.trans (same_upd (o := .lst (cutV (nv t) none (some (f : Int)))) n2)
    have d12 : l1 ≠ l2 := ne_of_none upd_same n2
    have hcut : cutV (nv t) none (some ((f : Nat) : Int)) = nv (t.take f) := by
      unfold cutV
      rw [HT.sIx_none, HT.sIx_nat, nv_len, List.drop_zero, Nat.min_eq_left (by omega), Nat.sub_zero]
      unfold nv
      rw [List.map_take]
    have hcut2 : cutV (nv t) (some ((f : Int) + 1)) none = nv (t.drop (f + 1)) := by
      unfold cutV
      rw [show (f : Int) + 1 = ((f + 1 : Nat) : Int) by omega, HT.sIx_none, HT.sIx_nat, nv_len, Nat.min_eq_left (by omega), List.take_of_length_le (by rw [List.length_drop, nv_len]; omega)]
      unfold nv
      rw [List.map_drop]
    refine ⟨l1, l2, _, _, rfl, rfl, by rw [upd_ne d12]; exact upd_same, upd_same, by rw [hcut, nv_len, List.length_take, sizeLine_eq]; simp; omega, fun l3 n3 => ?_⟩
    have S3 := S2.trans (same_upd (o := .lst ([V.int (t.getD f 0 : Nat)] ++ cutV (nv t) none (some (f : Int)))) n3)
    refine ⟨by show 1 ≤ sizeLine; decide, fun l4 n4 => ?_⟩
    have S4 := S3.trans (same_upd (o := .lst [V.int (-1)]) n4)
    have d34 : l3 ≠ l4 := ne_of_none upd_same n4
    refine ⟨l3, l4, _, _, rfl, rfl, by rw [upd_ne d34]; exact upd_same, upd_same, by rw [hcut, List.length_append, nv_len, List.length_take, sizeLine_eq]; simp; omega, fun l5 n5 => ?_⟩
    have S5 := S4.trans (same_upd (o := .lst ([V.int (t.getD f 0 : Nat)] ++ cutV (nv t) none (some (f : Int)) ++ [V.int (-1)])) n5)
    refine ⟨_, rfl, _, rfl, _, _, rfl, rfl, _, rfl, a, _, rfl, S5.seq hA, fun l6 n6 => ?_⟩
    have d56 : l5 ≠ l6 := ne_of_none upd_same n6
    have S6 := S5.trans (same_upd (o := .lst (cutV (nv t) (some ((f : Int) + 1)) none)) n6)
    refine ⟨l5, l6, _, _, rfl, rfl, by rw [upd_ne d56]; exact upd_same, upd_same, by rw [hcut, hcut2, List.length_append, List.length_append, nv_len, nv_len, List.length_take, List.length_drop, sizeLine_eq]; simp; omega, fun l7 n7 => ?_⟩
    refine k l7 _ (S6.trans (same_upd n7)) (S6.free n7) ?_
    rw [upd_same, hcut, hcut2, TE.colz_is hf]
    unfold nv
    simp [List.map_map]
    constructor <;> rfl
theorem scTK : FnScope ["turned", "first", "before", "longer", "text", "number"] ["turned", "first"] (defScope sBack) := ⟨rfl, rfl, rfl, by decide +kernel, rfl, by decide +kernel, by decide +kernel⟩
theorem ok_back {f : Addr} {fd : FuncData} (F : Fun K "text_back" "text_back" sBack f fd) (NB : GInt mg "NO_BYTE" (-1)) (C1 : Cal P w K mg base 1 "bytes_before" ["turned", "first"] (spBytes K)) (C2 : Cal P w K mg base 1 "places_by" ["keys"] (spPlaces K Pt))
    (C3 : Cal P w K mg base 1 "numbers_in_order" ["order"] (spNumbers K)) : FnOk P w K mg base CX0 2 f fd ["turned", "first"] (spBack K Pt) := by
  obtain ⟨u, hu, ru⟩ := NB
  obtain ⟨f1, fd1, mg1, kp1, b1, G1⟩ := C1
  obtain ⟨f2, fd2, mg2, kp2, b2, G2⟩ := C2
  obtain ⟨f3, fd3, mg3, kp3, b3, G3⟩ := C3
  refine F.ok scTK (fun vs H Q E h => ?_) (fun cdv A outer s H vs Q E hr h => ?_)
  · obtain ⟨a, t, f, rfl, _⟩ := h
    rfl
  · obtain ⟨a, t, f, rfl, hA, hf, hz, hT, k⟩ := h
    refine ⟨_, pss_cons (ps_set (i := 2) scTK.nd rfl (Or.inl rfl) (pe_call G1 hr rfl mg1 kp1 b1 .nil pass0 (pa_cons (pv 0) (pa_cons (pv 1) pa_nil))))
      (pss_cons (ps_set (i := 3) scTK.nd rfl (Or.inl rfl) (pe_call G3 hr rfl mg3 kp3 b3 .nil pass0 (pa_cons (pe_call G2 hr rfl mg2 kp2 b2 .nil pass0 (pa_cons (pv 2) pa_nil)) pa_nil)))
      (pss_cons (ps_set (i := 4) scTK.nd rfl (Or.inl rfl) (pe_lst pa_nil))
      (pss_cons (ps_set (i := 5) scTK.nd rfl (Or.inl rfl) pe_int)
      (pss_cons (ps_while PassesOwn.never (pt_cmpR op_ne (pe_ix ix_list (pv 2) (pv 5) (fun _ _ => rfl)) (pe_glob rfl hu ru) (nomark _))
        (pss_cons (ps_expr (pe_bm PySem.F.plainAttrs_list PySem.F.slot_list_append PySem.F.type_list_append mt_append (pv 4) (pa_cons (pe_ix ix_list (pv 2) (pv 5) (fun _ _ => rfl)) pa_nil)))
        (pss_one (ps_set (i := 5) scTK.nd rfl (Or.inl rfl) (pe_ix ix_list (pv 3) (pv 5) (fun _ _ => rfl))))))
      (pss_cons (ps_expr (pe_bm0 PySem.F.plainAttrs_list PySem.F.slot_list_reverse PySem.F.type_list_reverse mt_reverse (pv 4)))
      (pss_one (ps_ret (pv 4)))))))), ?_⟩
    -- before, longer
    refine ⟨_, rfl, _, rfl, a, t, f, rfl, hA, hf, by omega, fun bb H1 s1 n1 e1 => ?_⟩
    have g1 : Gr Pt H H1 := gr_same hT s1
    refine ⟨_, rfl, bb, TE.colz t f, rfl, SqL.of e1, by rw [TE.colz_len]; omega, g1.2, fun ob o H2 bk g2 n2 e2 => ?_⟩
    have hol : o.length = t.length + 1 := by rw [bk.length, TE.colz_len]
    refine ⟨ob, o, rfl, SqL.of e2, by have := bk.perm; rw [TE.colz_len] at this; rw [hol]; exact this, by omega, fun lb N H3 hN s3 n3 e3 => ?_⟩
    have g3 : Gr Pt H H3 := gr_trans g1 (gr_trans g2 (gr_same g2.2 s3))
    have e1' : H3 bb = some (.lst ((TE.colz t f).map V.int)) := s3 _ _ (gr_lst g1.2 g2 e1)
    refine ⟨Nat.zero_le _, fun q hq => ?_⟩
    have rw_ := TE.rows_of bk
    have hL := TE.leads_lead (Sw16.column t f)
    have hNl : N.length = t.length + 1 := hN.1.trans hol
    have hNg : ∀ i, i < t.length + 1 → N.getD i 0 = Sw16.leadsTo (Sw16.column t f) i := fun i hi => by
      obtain ⟨j, hj, rfl⟩ := TE.perm_surj rw_.perm (p := i) (by rw [TE.column_len]; exact hi)
      rw [hN.2 j (by rw [hol]; rw [TE.column_len] at hj; exact hj), hL.at_ rw_ hj]
    have nbq : bb ≠ q := ne_of_none e1' hq
    have nlq : lb ≠ q := ne_of_none e3 hq
    have hq0 : H q = none := gr_none hT g3 hq
    refine ⟨fun m σ H' => ∃ j : Nat, m = t.length - j ∧ σ = [some (.ref a), some (.int f), some (.ref bb), some (.ref lb), some (.ref q), some (.int (TE.wk (Sw16.leadsTo (Sw16.column t f)) j : Nat))] ∧ (∀ b o, H3 b = some o → H' b = some o) ∧ H' q = some (.lst (nv (TE.met t f j))) ∧
        ∀ m, m < j → (Sw16.column t f).getD (TE.wk (Sw16.leadsTo (Sw16.column t f)) m) 0 ≠ 0, ⟨_, 0, rfl, rfl, fun b o e => by rw [upd_ne (ne_of_none e hq)]; exact e, upd_same, fun m hm => by omega⟩, ?_⟩
    rintro m σ H' ⟨j, rfl, rfl, keep, hq', hnz⟩
    have hw := TE.wk_lt hL j
    have hat : atI ((TE.colz t f).map V.int) ((TE.wk (Sw16.leadsTo (Sw16.column t f)) j : Nat) : Int) = some (V.int (((Sw16.column t f).getD (TE.wk (Sw16.leadsTo (Sw16.column t f)) j) 0 : Nat) - 1)) := by
      rw [key_at (k := TE.wk (Sw16.leadsTo (Sw16.column t f)) j) rfl (by rw [TE.colz_len]; exact hw), TE.colz_get hw]
    refine ⟨_, rfl, _, rfl, bb, _, _, _, rfl, rfl, SqL.of (keep _ _ e1'), hat, rfl, _, rfl, ?_⟩
    rw [dec_ne]
    refine ite2 (fun hc => ?_) (fun hc => ?_)
    · have hc : ¬ (((Sw16.column t f).getD (TE.wk (Sw16.leadsTo (Sw16.column t f)) j) 0 : Nat) : Int) - 1 = -1 := of_decide_eq_true hc
      have hnz' : ∀ m, m < j + 1 → (Sw16.column t f).getD (TE.wk (Sw16.leadsTo (Sw16.column t f)) m) 0 ≠ 0 := fun m hm => by
        by_cases e : m = j
        · subst e; omega
        · exact hnz m (by omega)
      have hj := TE.wk_le hf hL rw_ hnz'
      refine ⟨fun σ' H'' => σ' = [some (.ref a), some (.int f), some (.ref bb), some (.ref lb), some (.ref q), some (.int (TE.wk (Sw16.leadsTo (Sw16.column t f)) (j + 1) : Nat))] ∧ (∀ b o, H3 b = some o → H'' b = some o) ∧ H'' q = some (.lst (nv (TE.met t f (j + 1)))),
        fun σ' H'' ⟨p1, p2, p3⟩ => ⟨_, (show t.length - (j + 1) < t.length - j by omega), j + 1, rfl, p1, p2, p3, hnz'⟩, ?_⟩
      have keep2 : ∀ b o, H3 b = some o → (upd H' q (.lst (nv (TE.met t f j) ++ [V.int (((Sw16.column t f).getD (TE.wk (Sw16.leadsTo (Sw16.column t f)) j) 0 : Nat) - 1)]))) b = some o := fun b o e => by rw [upd_ne (ne_of_none e hq)]; exact keep b o e
      refine ⟨_, rfl, .inl ⟨rfl, _, SqL.of hq'⟩, _, rfl, _, rfl, bb, _, _, _, rfl, rfl, SqL.of (keep _ _ e1'), hat, q, _, _, rfl, rfl, hq', by rw [nv_len, TE.met_len, sizeLine_eq]; omega, ?_⟩
      refine ⟨_, rfl, _, rfl, lb, _, _, _, rfl, rfl, SqL.of (keep2 _ _ e3), nat_at (k := TE.wk (Sw16.leadsTo (Sw16.column t f)) j) rfl (by rw [hNl]; exact hw), ?_⟩
      refine ⟨?_, keep2, ?_⟩
      · rw [hNg _ hw]; rfl
      · have := hnz' j (by omega)
        have e : (((Sw16.column t f).getD (TE.wk (Sw16.leadsTo (Sw16.column t f)) j) 0 : Nat) : Int) - 1 = (((Sw16.column t f).getD (TE.wk (Sw16.leadsTo (Sw16.column t f)) j) 0 - 1 : Nat) : Int) := by omega
        rw [upd_same, TE.met_snoc, ← nv_snoc, e]
    · have hc : (((Sw16.column t f).getD (TE.wk (Sw16.leadsTo (Sw16.column t f)) j) 0 : Nat) : Int) - 1 = -1 := Decidable.byContradiction fun z => hc (decide_eq_true z)
      refine ⟨_, rfl, .inl ⟨rfl, _, SqL.of hq'⟩, q, _, rfl, rfl, hq', ?_⟩
      refine ⟨_, rfl, ?_⟩
      refine k q (TE.met t f j).reverse _ ⟨fun b u e hb => ?_, ?_⟩ hq0 ?_ ?_
      · rw [upd_ne (ne_of_none e hq0)]; exact keep _ _ (g3.1 b u e hb)
      · rcases g3.2 with T | ⟨cc, T, Tc⟩
        · exact .inl (by rw [upd_ne (ne_of_none T hq)]; exact keep _ _ T)
        · exact .inr ⟨cc, by rw [upd_ne (ne_of_none T hq)]; exact keep _ _ T, by rw [upd_ne (ne_of_none Tc hq)]; exact keep _ _ Tc⟩
      · rw [upd_same]; unfold nv; rw [List.map_reverse]
      · have hj := TE.wk_le hf hL rw_ hnz
        rw [List.length_reverse, TE.met_len]
        rcases Nat.lt_or_eq_of_le hj with q1 | q1
        · exact .inr ⟨q1, TE.back_none hf rw_ q1 (by omega)⟩
        · refine .inl ⟨q1, ?_⟩
          rw [q1] at hnz
          rw [TE.back_some hf rw_ hnz, q1, TE.met_back]
end
end W
end

section
set_option Elab.async false
set_option linter.all false
set_option maxRecDepth 100000
set_option maxHeartbeats 2000000
namespace W
open PySem PySem.Spec PyProof.Rows L2
/-! ### holder.py's defs -/
abbrev sUpto : Stmt := top 26
abbrev sIsLen : Stmt := top 27
theorem lt_before : ∀ a b : List Nat, Lst.ltI (TE.ofNats a) (TE.ofNats b) = Sw16.before a b
  | [], [] => rfl
  | [], _ :: _ => rfl
  | _ :: _, [] => rfl
  | x :: a, y :: b => by
    show (if (x : Int) = (y : Int) then Lst.ltI (TE.ofNats a) (TE.ofNats b) else decide ((x : Int) < (y : Int))) = if x = y then Sw16.before a b else decide (x < y)
    rw [lt_before a b]
    by_cases h : x = y
    · rw [if_pos h, if_pos (by omega)]
    · rw [if_neg h, if_neg (by omega)]
      by_cases h2 : x < y
      · rw [decide_eq_true h2, decide_eq_true (by omega)]
      · rw [decide_eq_false h2, decide_eq_false (by omega)]
theorem ofNats_inj {a b : List Nat} : TE.ofNats a = TE.ofNats b ↔ a = b := by
  constructor
  · intro h
    have := congrArg (List.map Int.toNat) h
    unfold TE.ofNats at this
    rw [List.map_map, List.map_map] at this
    have e : (Int.toNat ∘ fun (x : Nat) => (x : Int)) = id := by funext x; simp
    rwa [e, List.map_id, List.map_id] at this
  · rintro rfl; rfl
theorem cut_nv {t : List Nat} {p l : Nat} : cutV (nv t) (some ((p : Nat) : Int)) (some (((p + l : Nat)) : Int)) = nv ((t.drop p).take l) := by
  unfold cutV
  rw [HT.sIx_nat, HT.sIx_nat, nv_len]
  unfold nv
  rw [← List.map_drop, ← List.map_take]
  congr 1
  by_cases h : p ≤ t.length
  · rw [Nat.min_eq_left h]
    by_cases h2 : p + l ≤ t.length
    · rw [Nat.min_eq_left h2, show p + l - p = l by omega]
    · rw [Nat.min_eq_right (by omega), List.take_of_length_le (by rw [List.length_drop]; omega), List.take_of_length_le (by rw [List.length_drop]; omega)]
  · rw [Nat.min_eq_right (show t.length ≤ p by omega), List.drop_eq_nil_of_le (Nat.le_refl _), List.drop_eq_nil_of_le (by omega), List.take_nil, List.take_nil]
def uTest (t o w : List Nat) (e : Bool) (k : Nat) : Prop := if e = true then TE.upto t o w k else TE.less t o w k
theorem uTest_mono {t o w : List Nat} {e : Bool} (h : Sw16.Ends t o) {j k : Nat} (hjk : j ≤ k) (hk : k < t.length) (hb : uTest t o w e k) : uTest t o w e j := by
  unfold uTest at *
  cases e with
  | true => exact TE.upto_mono h hjk hk hb
  | false => exact TE.less_mono h hjk hk hb
def spUpto (K : PySem.W.Frag) : Sp := fun vs H Q _ => ∃ (a b d : Addr) (t o wt : List Nat) (e : Bool), vs = [.ref a, .ref b, .ref d, .bl e] ∧ SqL K H a (nv t) ∧ SqL K H b (nv o) ∧ SqL K H d (nv wt) ∧ Sw16.Ends t o ∧
  ∀ (m : Nat) (H' : Hp), Same H H' → TE.Cut (uTest t o wt e) t.length m → Q (.int m) H'
def spIsLen : Sp := fun vs H Q _ => ∃ n : Int, vs = [.int n] ∧ Q (.bl (Sw16.within n 1 65536)) H
section
variable {P : Program} {w : World} {K : PySem.W.Frag} {mg : Str → Option Value} {base : Heap} {c Pt : Addr}
theorem scHU : FnScope ["text", "order", "what", "equal_too", "low", "high", "middle", "place", "beginning"] ["text", "order", "what", "equal_too"] (defScope sUpto) := ⟨rfl, rfl, rfl, by decide +kernel, rfl, by decide +kernel, by decide +kernel⟩
theorem ok_upto {f : Addr} {fd : FuncData} (F : Fun K "ends_up_to" "ends_up_to" sUpto f fd) (T : Txt K mg base c Pt) : FnOk P w K mg base CX0 1 f fd ["text", "order", "what", "equal_too"] (spUpto K) := by
  refine F.ok scHU (fun vs H Q E h => ?_) (fun cdv A outer s H vs Q E hr h => ?_)
  · obtain ⟨a, b, d, t, o, wt, e, rfl, _⟩ := h
    rfl
  · obtain ⟨a, b, d, t, o, wt, e, rfl, hA, hB, hD, he, k⟩ := h
    have hu : (cxOf CX0 P w K mg base ["text", "order", "what", "equal_too", "low", "high", "middle", "place", "beginning"] "ends_up_to" (defScope sUpto) f cdv A outer s H E).nox.A.units < cLine := by have := hu_of hr; exact Nat.lt_of_succ_lt this
    refine ⟨_, pss_cons (ps_set (i := 4) scHU.nd rfl (Or.inl rfl) pe_int)
      (pss_cons (ps_set (i := 5) scHU.nd rfl (Or.inl rfl) (pe_callB call_len_seq rfl T.len PySem.boot_len (pa_cons (pv 1) pa_nil)))
      (pss_cons (ps_while PassesOwn.never (pt_cmpR op_lt (pv 4) (pv 5) (nomark _))
        (pss_cons (ps_set (i := 6) scHU.nd rfl (Or.inl rfl) (pe_op op_fdiv (pe_op op_add (pv 4) (pv 5)) pe_int))
        (pss_cons (ps_set (i := 7) scHU.nd rfl (Or.inl rfl) (pe_ix ix_list (pv 1) (pv 6) (fun _ _ => rfl)))
        (pss_cons (ps_set (i := 8) scHU.nd rfl (Or.inl rfl) (pe_slice sl_list (pv 0) (po_some (pv 7)) (po_some (pe_op op_add (pv 7) (pe_callB call_len_seq rfl T.len PySem.boot_len (pa_cons (pv 2) pa_nil))))))
        (pss_one (ps_if (PW.pt (pw_or (pt_cmpR (op_ltL hu) (pv 8) (pv 2) (nomark _)) (pw_or1 (PW.pt (pw_and (pt_val (pv 3)) (pw_and1 (pt_cmpR (op_eqL hu) (pv 8) (pv 2) (nomark _)))))))) (pss_one (ps_set (i := 4) scHU.nd rfl (Or.inl rfl) (pe_op op_add (pv 6) pe_int))) (pss_one (ps_set (i := 5) scHU.nd rfl (Or.inl rfl) (pv 6)))))))))
      (pss_one (ps_ret (pv 4))))), ?_⟩
    have hol := TE.ends_length he
    refine ⟨_, rfl, b, _, rfl, .inl hB, ?_⟩
    rw [nv_len, hol]
    refine ⟨fun m σ H' => ∃ (lo hi : Nat) (v6 v7 v8 : Option V), m = hi - lo ∧ σ = [some (.ref a), some (.ref b), some (.ref d), some (.bl e), some (.int lo), some (.int hi), v6, v7, v8] ∧ Same H H' ∧ lo ≤ hi ∧ hi ≤ t.length ∧ (∀ k, k < lo → uTest t o wt e k) ∧ ∀ k, hi ≤ k → k < t.length → ¬ uTest t o wt e k,
      ⟨_, 0, t.length, none, none, none, rfl, rfl, same_refl H, Nat.zero_le _, Nat.le_refl _, fun k hk => by omega, fun k h1 h2 => by omega⟩, ?_⟩
    rintro m σ H' ⟨lo, hi, v6, v7, v8, rfl, rfl, S1, q1, q2, q3, q4⟩
    refine ⟨_, rfl, _, rfl, _, _, rfl, rfl, _, rfl, ?_⟩
    refine ite2 (fun hc => ?_) (fun hc => ?_)
    · have hc : ((lo : Nat) : Int) < (hi : Nat) := of_decide_eq_true hc
      obtain ⟨md, hmd⟩ : ∃ md : Nat, (((lo : Nat) : Int) + (hi : Nat)) / 2 = (md : Nat) := ⟨(lo + hi) / 2, by omega⟩
      have hm1 : lo ≤ md := by omega
      have hm2 : md < hi := by omega
      refine ⟨fun σ' H'' => ∃ (lo' hi' : Nat) (v6 v7 v8 : Option V), hi' - lo' < hi - lo ∧ σ' = [some (.ref a), some (.ref b), some (.ref d), some (.bl e), some (.int lo'), some (.int hi'), v6, v7, v8] ∧ Same H H'' ∧ lo' ≤ hi' ∧ hi' ≤ t.length ∧ (∀ k, k < lo' → uTest t o wt e k) ∧ ∀ k, hi' ≤ k → k < t.length → ¬ uTest t o wt e k,
        fun σ' H'' ⟨lo', hi', v6, v7, v8, p1, p2⟩ => ⟨_, p1, lo', hi', v6, v7, v8, rfl, p2⟩, ?_⟩
      have hpl := TE.ends_lt he (k := md) (by omega)
      refine ⟨_, rfl, _, rfl, _, _, rfl, rfl, _, _, rfl, rfl, ⟨by decide, by decide⟩, ?_⟩
      refine ⟨_, rfl, _, rfl, b, _, _, _, rfl, rfl, S1.seq hB, nat_at (k := md) hmd (by omega), ?_⟩
      refine ⟨_, rfl, _, rfl, _, rfl, _, rfl, _, rfl, d, _, rfl, .inl (S1.seq hD), _, _, rfl, rfl, _, rfl, a, _, rfl, S1.seq hA, fun q hq => ?_⟩
      have hcut : cutV (nv t) (some ((o.getD md 0 : Nat) : Int)) (some (((o.getD md 0 : Nat) : Int) + ((nv wt).length : Nat))) = nv ((Sw16.end_ t (o.getD md 0)).take wt.length) := by
        rw [nv_len, show ((o.getD md 0 : Nat) : Int) + (wt.length : Nat) = ((o.getD md 0 + wt.length : Nat) : Int) by omega, cut_nv]; rfl
      have S2 : Same H (upd H' q (.lst (cutV (nv t) (some ((o.getD md 0 : Nat) : Int)) (some (((o.getD md 0 : Nat) : Int) + ((nv wt).length : Nat)))))) := S1.trans (same_upd hq)
      have hb1 : SqL K (upd H' q (.lst (cutV (nv t) (some ((o.getD md 0 : Nat) : Int)) (some (((o.getD md 0 : Nat) : Int) + ((nv wt).length : Nat)))))) q ((TE.ofNats ((Sw16.end_ t (o.getD md 0)).take wt.length)).map V.int) := by
        rw [← nv_ints, ← hcut]; exact SqL.of upd_same
      have hb2 : SqL K (upd H' q (.lst (cutV (nv t) (some ((o.getD md 0 : Nat) : Int)) (some (((o.getD md 0 : Nat) : Int) + ((nv wt).length : Nat)))))) d ((TE.ofNats wt).map V.int) := by
        rw [← nv_ints]; exact S2.seq hD
      generalize hH2 : upd H' q (.lst (cutV (nv t) (some ((o.getD md 0 : Nat) : Int)) (some (((o.getD md 0 : Nat) : Int) + ((nv wt).length : Nat))))) = H2 at S2 hb1 hb2
      have yes : uTest t o wt e md → ∃ (lo' hi' : Nat) (v6 v7 v8 : Option V), hi' - lo' < hi - lo ∧ [some (V.ref a), some (.ref b), some (.ref d), some (.bl e), some (.int ((((lo : Nat) : Int) + (hi : Nat)) / 2 + 1)), some (.int hi), some (.int ((((lo : Nat) : Int) + (hi : Nat)) / 2)), some (.int (o.getD md 0 : Nat)), some (.ref q)] = [some (V.ref a), some (.ref b), some (.ref d), some (.bl e), some (.int lo'), some (.int hi'), v6, v7, v8] ∧
          Same H H2 ∧ lo' ≤ hi' ∧ hi' ≤ t.length ∧ (∀ k, k < lo' → uTest t o wt e k) ∧ ∀ k, hi' ≤ k → k < t.length → ¬ uTest t o wt e k := fun hy => by
        refine ⟨md + 1, hi, _, _, _, by omega, by rw [hmd]; rfl, S2, by omega, q2, fun k hk => uTest_mono he (by omega) (by omega) hy, q4⟩
      have no : ¬ uTest t o wt e md → ∃ (lo' hi' : Nat) (v6 v7 v8 : Option V), hi' - lo' < hi - lo ∧ [some (V.ref a), some (.ref b), some (.ref d), some (.bl e), some (.int lo), some (.int ((((lo : Nat) : Int) + (hi : Nat)) / 2)), some (.int ((((lo : Nat) : Int) + (hi : Nat)) / 2)), some (.int (o.getD md 0 : Nat)), some (.ref q)] = [some (V.ref a), some (.ref b), some (.ref d), some (.bl e), some (.int lo'), some (.int hi'), v6, v7, v8] ∧
          Same H H2 ∧ lo' ≤ hi' ∧ hi' ≤ t.length ∧ (∀ k, k < lo' → uTest t o wt e k) ∧ ∀ k, hi' ≤ k → k < t.length → ¬ uTest t o wt e k := fun hn => by
        refine ⟨lo, md, _, _, _, by omega, by rw [hmd], S2, by omega, by omega, q3, fun k h1 h2 hk => hn (uTest_mono he h1 h2 hk)⟩
      refine ⟨_, rfl, _, rfl, q, d, _, _, rfl, rfl, hb1, hb2, _, rfl, ?_⟩
      rw [lt_before]
      refine ite2 (fun hl => ?_) (fun hl => ?_)
      · refine iteT ⟨_, rfl, _, _, rfl, rfl, ?_⟩
        refine yes ?_
        unfold uTest
        cases e with
        | true => exact .inr hl
        | false => exact hl
      · refine ⟨_, rfl, _, rfl, ?_⟩
        cases e with
        | false =>
          refine iteF ?_
          refine iteF ⟨_, rfl, no ?_⟩
          unfold uTest
          exact hl
        | true =>
          refine iteT ⟨_, rfl, _, rfl, q, d, _, _, rfl, rfl, hb1, hb2, _, rfl, ?_⟩
          refine ite2 (fun hq2 => ?_) (fun hq2 => ?_)
          · have hq2 := ofNats_inj.mp (of_decide_eq_true hq2)
            exact ⟨_, rfl, _, _, rfl, rfl, yes (.inl hq2)⟩
          · have hq2 : ¬ _ := fun z => hq2 (decide_eq_true (ofNats_inj.mpr z))
            refine ⟨_, rfl, no ?_⟩
            rintro (z | z)
            · exact hq2 z
            · exact hl z
    · have hc : ¬ ((lo : Nat) : Int) < (hi : Nat) := fun z => hc (decide_eq_true z)
      have e2 : hi = lo := by omega
      subst e2
      exact ⟨_, rfl, k hi H' S1 ⟨q2, q3, q4⟩⟩
theorem scHL : FnScope ["n"] ["n"] (defScope sIsLen) := ⟨rfl, rfl, rfl, by decide +kernel, rfl, by decide +kernel, by decide +kernel⟩
theorem ok_isLen {f : Addr} {fd : FuncData} (F : Fun K "is_length" "is_length" sIsLen f fd) (LG : GInt mg "LONGEST" 65536) : FnOk P w K mg base CX0 1 f fd ["n"] spIsLen := by
  obtain ⟨u, hu, ru⟩ := LG
  refine F.ok scHL (fun vs H Q E h => ?_) (fun cdv A outer s H vs Q E hr h => ?_)
  · obtain ⟨n, rfl, _⟩ := h
    rfl
  · obtain ⟨n, rfl, k⟩ := h
    refine ⟨_, pss_one (ps_ret (pe_and (pe_cmpR op_le pe_int (pv 0) (nomark _)) (pe_one (pe_cmpR op_le (pv 0) (pe_glob rfl hu ru) (nomark _))))), ?_⟩
    refine ⟨_, rfl, _, _, rfl, rfl, _, rfl, ?_⟩
    unfold Sw16.within at k
    refine ite2 (fun hc => ?_) (fun hc => ?_)
    · refine ⟨_, rfl, _, _, rfl, rfl, ?_⟩
      rw [hc] at k
      exact k
    · have hc : decide (1 ≤ n) = false := by simpa using hc
      rw [hc] at k
      exact k
end
end W
end

section
set_option Elab.async false
set_option linter.all false
set_option maxRecDepth 100000
set_option maxHeartbeats 2000000
namespace W
open PySem PySem.Spec PyProof.Rows L2
/-! ### the holder -/
abbrev sInit : Stmt := inClass (top 28) 0
abbrev sHold : Stmt := inClass (top 28) 1
abbrev sHas : Stmt := inClass (top 28) 2
abbrev sAt : Stmt := inClass (top 28) 3
abbrev sFind : Stmt := inClass (top 28) 4
abbrev sCommon : Stmt := inClass (top 28) 5
abbrev sTwice : Stmt := inClass (top 28) 6
abbrev sPieces : Stmt := inClass (top 28) 7
abbrev sPiece : Stmt := inClass (top 28) 8
abbrev sTurnM : Stmt := inClass (top 28) 9
abbrev sBackM : Stmt := inClass (top 28) 10
/-- its fields -/
def hf (a b c d e g : Addr) : List (Str × V) := [("text", .ref a), ("order", .ref b), ("numbers", .ref c), ("shared", .ref d), ("best", .ref e), ("before", .ref g)]
section
variable (a b c d e g x : Addr)
theorem hf_text : (hf a b c d e g).lookup ("text" : Str) = some (V.ref a) := rfl
theorem hf_order : (hf a b c d e g).lookup ("order" : Str) = some (V.ref b) := rfl
theorem hf_numbers : (hf a b c d e g).lookup ("numbers" : Str) = some (V.ref c) := rfl
theorem hf_shared : (hf a b c d e g).lookup ("shared" : Str) = some (V.ref d) := rfl
theorem hf_best : (hf a b c d e g).lookup ("best" : Str) = some (V.ref e) := rfl
theorem hf_before : (hf a b c d e g).lookup ("before" : Str) = some (V.ref g) := rfl
theorem put_text : putF "text" (.ref x) (hf a b c d e g) = hf x b c d e g := rfl
theorem put_order : putF "order" (.ref x) (hf a b c d e g) = hf a x c d e g := rfl
theorem put_numbers : putF "numbers" (.ref x) (hf a b c d e g) = hf a b x d e g := rfl
theorem put_shared : putF "shared" (.ref x) (hf a b c d e g) = hf a b c x e g := rfl
theorem put_best : putF "best" (.ref x) (hf a b c d e g) = hf a b c d x g := rfl
theorem put_before : putF "before" (.ref x) (hf a b c d e g) = hf a b c d e x := rfl
end
/-- a text and all that is made of it -/
structure Parts (K : PySem.W.Frag) (H : Hp) (s : List Nat) (a b c d e g : Addr) (o N : List Nat) (ys : List V) (bs rs : List TE.Run) : Prop where
  ne : s ≠ []
  len : s.length ≤ 65536
  ends : Sw16.Ends s o
  num : Numbers o N
  text : H a = some (.lst (nv s))
  order : H b = some (.lst (nv o))
  numbers : H c = some (.lst (nv N))
  shared : H d = some (.lst (nv (shs s o)))
  best : H e = some (.lst ys)
  runsAt : Ls (RunAt K H) ys bs
  bestLen : bs.length = s.length + 1
  runs : TE.Runs (gl (shs s o)) s.length rs
  bestAt : BestAt rs bs
  before : H g = some (.lst (nv (pbs s o)))
def Held (K : PySem.W.Frag) (H : Hp) (st : Option (List Nat)) (a b c d e g : Addr) : Prop := match st with
  | none => H a = some (.lst [])
  | some s => ∃ o N ys bs rs, Parts K H s a b c d e g o N ys bs rs
/-- the holder at h holds st; none of its lists is that at q -/
def HoldAt (K : PySem.W.Frag) (C : Addr) (H : Hp) (h q : Addr) (st : Option (List Nat)) : Prop :=
  ∃ (dx a b c d e g : Addr), H h = some (.ins C dx (hf a b c d e g)) ∧ (a ≠ q ∧ b ≠ q ∧ c ≠ q ∧ d ≠ q ∧ e ≠ q ∧ g ≠ q) ∧ Held K H st a b c d e g
theorem Parts.mono {K : PySem.W.Frag} {H H' : Hp} {s : List Nat} {a b c d e g : Addr} {o N : List Nat} {ys : List V} {bs rs : List TE.Run} (p : Parts K H s a b c d e g o N ys bs rs)
    (ha : H' a = H a) (hb : H' b = H b) (hc : H' c = H c) (hd : H' d = H d) (he : H' e = H e) (hg : H' g = H g) (ht : ∀ x xs, SqT K H x xs → SqT K H' x xs) : Parts K H' s a b c d e g o N ys bs rs :=
  ⟨p.ne, p.len, p.ends, p.num, ha.trans p.text, hb.trans p.order, hc.trans p.numbers, hd.trans p.shared, he.trans p.best, p.runsAt.mono fun v r ⟨x, e1, e2⟩ => ⟨x, e1, ht x _ e2⟩, p.bestLen, p.runs, p.bestAt, hg.trans p.before⟩
theorem Parts.same {K : PySem.W.Frag} {H H' : Hp} {s : List Nat} {a b c d e g : Addr} {o N : List Nat} {ys : List V} {bs rs : List TE.Run} (p : Parts K H s a b c d e g o N ys bs rs) (S : Same H H') : Parts K H' s a b c d e g o N ys bs rs :=
  p.mono ((S _ _ p.text).trans p.text.symm) ((S _ _ p.order).trans p.order.symm) ((S _ _ p.numbers).trans p.numbers.symm) ((S _ _ p.shared).trans p.shared.symm) ((S _ _ p.best).trans p.best.symm) ((S _ _ p.before).trans p.before.symm) fun x xs h => sqT_same S h
theorem HoldAt.same {K : PySem.W.Frag} {C : Addr} {H H' : Hp} {h q : Addr} {st : Option (List Nat)} (x : HoldAt K C H h q st) (S : Same H H') : HoldAt K C H' h q st := by
  obtain ⟨dx, a, b, c, d, e, g, h1, h2, h3⟩ := x
  refine ⟨dx, a, b, c, d, e, g, S _ _ h1, h2, ?_⟩
  cases st with
  | none => exact S _ _ h3
  | some s => obtain ⟨o, N, ys, bs, rs, p⟩ := h3; exact ⟨o, N, ys, bs, rs, p.same S⟩
/-- what is written to the list at q is nothing to the holder -/
theorem HoldAt.off {K : PySem.W.Frag} {C : Addr} {H : Hp} {h q : Addr} {st : Option (List Nat)} {xs ys : List V} (x : HoldAt K C H h q st) (hq : H q = some (.lst xs)) : HoldAt K C (upd H q (.lst ys)) h q st := by
  obtain ⟨dx, a, b, c, d, e, g, h1, ⟨n1, n2, n3, n4, n5, n6⟩, h3⟩ := x
  refine ⟨dx, a, b, c, d, e, g, by rw [upd_ne (ne_of h1 hq (by intro z; cases z))]; exact h1, ⟨n1, n2, n3, n4, n5, n6⟩, ?_⟩
  cases st with
  | none => show upd H q _ a = _; rw [upd_ne n1]; exact h3
  | some s => obtain ⟨o, N, zs, bs, rs, p⟩ := h3; exact ⟨o, N, zs, bs, rs, p.mono (upd_ne n1) (upd_ne n2) (upd_ne n3) (upd_ne n4) (upd_ne n5) (upd_ne n6) fun x xs h => sqT_upd hq h⟩
/-- what is answered, number by number -/
def tl (a : Sw16.Ans) : List Int := a.code :: (Sw16Neutral.ints a.nums ++ Sw16Neutral.ints a.out)
theorem tl_says (n : Int) : tl (Sw16.says n) = [n] := rfl
/-- a call that only reads -/
def spRead (K : PySem.W.Frag) (C : Addr) (ar : Hp → List V → Sw16.Call → Prop) : Sp := fun vs H Q _ => ∃ (h q : Addr) (st : Option (List Nat)) (as : List V) (cl : Sw16.Call), vs = .ref h :: as ∧ ar H as cl ∧ HoldAt K C H h q st ∧
  ∀ (p : Addr) (H' : Hp), Same H H' → H p = none → H' p = some (.lst ((tl (Sw16.worked st cl).2).map V.int)) → Q (.ref p) H'
def arAt (H : Hp) (as : List V) (cl : Sw16.Call) : Prop := ∃ k : Int, as = [.int k] ∧ cl = .at_ k
def arFind (K : PySem.W.Frag) (H : Hp) (as : List V) (cl : Sw16.Call) : Prop := ∃ (n : Int) (d : Addr) (wt : List Nat), as = [.int n, .ref d] ∧ SqL K H d (nv wt) ∧ cl = .find wt n
def arCommon (H : Hp) (as : List V) (cl : Sw16.Call) : Prop := ∃ i j : Int, as = [.int i, .int j] ∧ cl = .common i j
def arTwice (H : Hp) (as : List V) (cl : Sw16.Call) : Prop := ∃ t : Int, as = [.int t] ∧ cl = .twice t
def arPieces (H : Hp) (as : List V) (cl : Sw16.Call) : Prop := as = [] ∧ cl = .pieces
def arPiece (H : Hp) (as : List V) (cl : Sw16.Call) : Prop := ∃ k : Nat, as = [.int k] ∧ cl = .piece k
def arTurn (H : Hp) (as : List V) (cl : Sw16.Call) : Prop := as = [] ∧ cl = .turn
def spHas (K : PySem.W.Frag) (C : Addr) : Sp := fun vs H Q _ => ∃ (h dx a b c d e g : Addr) (s : List Nat) (i : Int), vs = [.ref h, .int i] ∧ H h = some (.ins C dx (hf a b c d e g)) ∧ H a = some (.lst (nv s)) ∧ Q (.bl (Sw16.within i 0 (s.length - 1))) H
/-- the facts of the class and of holder.py -/
structure TxtH (K : PySem.W.Frag) (mg : Str → Option Value) (base : Heap) (c P C : Addr) : Prop extends Txt K mg base c P where
  cl : Cls K C
  nT : NoAttr K C "text"
  nO : NoAttr K C "order"
  nN : NoAttr K C "numbers"
  nS : NoAttr K C "shared"
  nB : NoAttr K C "best"
  nP : NoAttr K C "before"
  list : mg "list" = none
  gNS : GInt mg "NONE_SUCH" (-1)
  gOR : GInt mg "OUT_OF_RANGE" (-2)
  gNT : GInt mg "NO_TEXT" (-4)
  gLG : GInt mg "LONGEST" 65536
/-- a method that is called -/
def MCal (P : Program) (w : World) (K : PySem.W.Frag) (mg : Str → Option Value) (base : Heap) (C : Addr) (k : Nat) (x : Str) (ps : List Str) (sp : Sp) : Prop :=
  ∃ (f : Addr) (fd : FuncData), Meth K C x f ∧ Binds K fd ps [] ∧ FnOk P w K mg base CX0 k f fd ps sp
theorem tru_lst {K : PySem.W.Frag} {H : Hp} {p : Addr} {xs : List V} (h : SqL K H p xs) : TruV K (.ref p) H (!xs.isEmpty) := .inl ⟨xs, h, rfl⟩
theorem nv_one (n : Nat) : [V.int (n : Nat)] = nv [n] := rfl
section
variable {P : Program} {w : World} {K : PySem.W.Frag} {mg : Str → Option Value} {base : Heap} {c Pt C : Addr}
theorem scHas : FnScope ["self", "i"] ["self", "i"] (defScope sHas) := ⟨rfl, rfl, rfl, by decide +kernel, rfl, by decide +kernel, by decide +kernel⟩
theorem ok_has {f : Addr} {fd : FuncData} (F : Fun K "has_place" "Holder.has_place" sHas f fd) (T : TxtH K mg base c Pt C) : FnOk P w K mg base CX0 1 f fd ["self", "i"] (spHas K C) := by
  refine F.ok scHas (fun vs H Q E h => ?_) (fun cdv A outer s H vs Q E hr h => ?_)
  · obtain ⟨h, dx, a, b, c, d, e, g, s, i, rfl, _⟩ := h
    rfl
  · obtain ⟨h, dx, a, b, c, d, e, g, t, i, rfl, hh, ha, k⟩ := h
    refine ⟨_, pss_one (ps_ret (pe_and (pe_cmpR op_le pe_int (pv 1) (nomark _)) (pe_one (pe_cmpR op_lt (pv 1) (pe_callB call_len_seq rfl T.len PySem.boot_len (pa_cons (pe_fld (pv 0) rfl) pa_nil)) (nomark _))))), ?_⟩
    refine ⟨_, rfl, _, _, rfl, rfl, _, rfl, ?_⟩
    unfold Sw16.within at k
    refine ite2 (fun hc => ?_) (fun hc => ?_)
    · refine ⟨_, rfl, _, rfl, h, C, dx, _, _, rfl, hh, T.cl, T.nT, hf_text .., a, _, rfl, .inl (SqL.of ha), _, _, rfl, rfl, ?_⟩
      rw [hc, Bool.true_and] at k
      rw [nv_len]
      have e : decide (i ≤ (t.length : Int) - 1) = decide (i < (t.length : Int)) := by
        by_cases q : i < (t.length : Int)
        · rw [decide_eq_true q, decide_eq_true (by omega)]
        · rw [decide_eq_false q, decide_eq_false (by omega)]
      rw [e] at k
      exact k
    · have hc : decide (0 ≤ i) = false := by simpa using hc
      rw [hc] at k
      exact k
theorem scAt : FnScope ["self", "k"] ["self", "k"] (defScope sAt) := ⟨rfl, rfl, rfl, by decide +kernel, rfl, by decide +kernel, by decide +kernel⟩
theorem ok_at {f : Addr} {fd : FuncData} (F : Fun K "at" "Holder.at" sAt f fd) (T : TxtH K mg base c Pt C) (M1 : MCal P w K mg base C 1 "has_place" ["self", "i"] (spHas K C)) : FnOk P w K mg base CX0 2 f fd ["self", "k"] (spRead K C arAt) := by
  obtain ⟨f1, fd1, m1, b1, G1⟩ := M1
  obtain ⟨uN, hN, rN⟩ := T.gNT
  obtain ⟨uO, hO, rO⟩ := T.gOR
  refine F.ok scAt (fun vs H Q E h => ?_) (fun cdv A outer s H vs Q E hr h => ?_)
  · obtain ⟨h, q, st, as, cl, rfl, ⟨k, rfl, _⟩, _⟩ := h
    rfl
  · obtain ⟨h, q, st, as, cl, rfl, ⟨i, rfl, rfl⟩, ⟨dx, a, b, c, d, e, g, hh, -, hS⟩, k⟩ := h
    refine ⟨_, pss_cons (ps_if (pt_not (pt_truth (pe_fld (pv 0) rfl) (fun _ => rfl))) (pss_one (ps_ret (pe_lst (pa_cons (pe_glob rfl hN rN) pa_nil)))) pss_nil)
      (pss_cons (ps_if (pt_not (pt_val (pe_meth (pv 0) T.cl m1 G1 hr b1 .nil pass0 (pa_cons (pv 1) pa_nil)))) (pss_one (ps_ret (pe_lst (pa_cons (pe_glob rfl hO rO) pa_nil)))) pss_nil)
      (pss_one (ps_ret (pe_lst (pa_cons (pe_ix ix_list (pe_fld (pv 0) rfl) (pv 1) (fun _ _ => rfl)) pa_nil))))), ?_⟩
    cases st with
    | none =>
      refine ⟨_, rfl, h, C, dx, _, _, rfl, hh, T.cl, T.nT, hf_text .., _, tru_lst (SqL.of hS), ?_⟩
      exact iteT ⟨by show 1 ≤ sizeLine; decide, fun p hp => k p _ (same_upd hp) hp upd_same⟩
    | some t =>
      obtain ⟨o, N, ys, bs, rs, p⟩ := hS
      have hne : (nv t).isEmpty = false := by
        have := p.ne
        cases t with
        | nil => exact (this rfl).elim
        | cons _ _ => rfl
      refine ⟨_, rfl, h, C, dx, _, _, rfl, hh, T.cl, T.nT, hf_text .., _, tru_lst (SqL.of p.text), ?_⟩
      rw [hne]
      refine iteF ?_
      refine ⟨_, rfl, h, dx, _, rfl, hh, rfl, _, rfl, h, dx, a, b, c, d, e, g, t, i, rfl, hh, p.text, _, rfl, ?_⟩
      have hw : Sw16.worked (some t) (.at_ i) = (some t, if Sw16.within i 0 (t.length - 1) = false then Sw16.says (-2) else Sw16.says ((Sw16.endsOf t).getD i.toNat 0)) := rfl
      rw [hw] at k
      cases hin : Sw16.within i 0 (t.length - 1) with
      | false =>
        rw [hin, if_pos rfl] at k
        exact iteT ⟨by show 1 ≤ sizeLine; decide, fun p hp => k p _ (same_upd hp) hp upd_same⟩
      | true =>
        rw [hin, if_neg (by decide)] at k
        refine iteF ?_
        unfold Sw16.within at hin
        rw [Bool.and_eq_true] at hin
        have h1 := of_decide_eq_true hin.1
        have h2 := of_decide_eq_true hin.2
        have hol := TE.ends_length p.ends
        refine ⟨_, rfl, h, C, dx, _, _, rfl, hh, T.cl, T.nO, hf_order .., _, rfl, b, _, _, _, rfl, rfl, SqL.of p.order, nat_at (k := i.toNat) (by omega) (by omega), by show 1 ≤ sizeLine; decide, fun p' hp => k p' _ (same_upd hp) hp ?_⟩
        rw [upd_same, tl_says, ← TE.ends_unique p.ends]
        rfl
end
end W
end

section
set_option Elab.async false
set_option linter.all false
set_option maxRecDepth 100000
set_option maxHeartbeats 2000000
namespace W
open PySem PySem.Spec PyProof.Rows L2
theorem nv_isEmpty {t : List Nat} (h : t ≠ []) : (nv t).isEmpty = false := by
  cases t with
  | nil => exact (h rfl).elim
  | cons _ _ => rfl
theorem within_iff {n a b : Int} : Sw16.within n a b = true ↔ a ≤ n ∧ n ≤ b := by
  unfold Sw16.within
  rw [Bool.and_eq_true, decide_eq_true_iff, decide_eq_true_iff]
theorem mem_slice {l : List Nat} {a n y : Nat} : y ∈ (l.drop a).take n ↔ ∃ k, a ≤ k ∧ k < a + n ∧ k < l.length ∧ l.getD k 0 = y := by
  constructor
  · intro h
    obtain ⟨i, hi, e⟩ := List.getElem_of_mem h
    rw [List.length_take, List.length_drop] at hi
    rw [List.getElem_take, List.getElem_drop] at e
    exact ⟨a + i, by omega, by omega, by omega, by rw [List.getD_eq_getElem?_getD, List.getElem?_eq_getElem (by omega)]; exact e⟩
  · rintro ⟨k, h1, h2, h3, e⟩
    have : ((l.drop a).take n)[k - a]? = some y := by
      rw [List.getElem?_take_of_lt (by omega), List.getElem?_drop, show a + (k - a) = k by omega, List.getElem?_eq_getElem h3]
      rw [List.getD_eq_getElem?_getD, List.getElem?_eq_getElem h3] at e
      exact congrArg some e
    exact List.mem_of_getElem? this
theorem mem_ofNats {l : List Nat} {m : Int} (h : m ∈ TE.ofNats l) : ∃ y : Nat, m = (y : Int) ∧ y ∈ l := by
  unfold TE.ofNats at h
  obtain ⟨y, hy, rfl⟩ := List.mem_map.mp h
  exact ⟨y, rfl, hy⟩
theorem of_mem {l : List Nat} {y : Nat} (h : y ∈ l) : (y : Int) ∈ TE.ofNats l := by unfold TE.ofNats; exact List.mem_map.mpr ⟨y, h, rfl⟩
section
variable {P : Program} {w : World} {K : PySem.W.Frag} {mg : Str → Option Value} {base : Heap} {c Pt C : Addr}
theorem scFind : FnScope ["self", "length", "what", "first", "behind"] ["self", "length", "what"] (defScope sFind) := ⟨rfl, rfl, rfl, by decide +kernel, rfl, by decide +kernel, by decide +kernel⟩
theorem ok_find {f : Addr} {fd : FuncData} (F : Fun K "find" "Holder.find" sFind f fd) (T : TxtH K mg base c Pt C) (C1 : Cal P w K mg base 1 "is_length" ["n"] spIsLen) (C2 : Cal P w K mg base 1 "ends_up_to" ["text", "order", "what", "equal_too"] (spUpto K)) :
    FnOk P w K mg base CX0 2 f fd ["self", "length", "what"] (spRead K C (arFind K)) := by
  obtain ⟨f1, fd1, mg1, kp1, b1, G1⟩ := C1
  obtain ⟨f2, fd2, mg2, kp2, b2, G2⟩ := C2
  obtain ⟨uN, hN, rN⟩ := T.gNT
  obtain ⟨uO, hO, rO⟩ := T.gOR
  refine F.ok scFind (fun vs H Q E h => ?_) (fun cdv A outer s H vs Q E hr h => ?_)
  · obtain ⟨h, q, st, as, cl, rfl, ⟨n, d, wt, rfl, _⟩, _⟩ := h
    rfl
  · obtain ⟨h, q, st, as, cl, rfl, ⟨n, dd, wt, rfl, hD, rfl⟩, ⟨dx, a, b, c, d, e, g, hh, -, hS⟩, k⟩ := h
    refine ⟨_, pss_cons (ps_if (pt_not (pt_val (pe_call G1 hr rfl mg1 kp1 b1 .nil pass0 (pa_cons (pv 1) pa_nil)))) (pss_one (ps_ret (pe_lst (pa_cons (pe_glob rfl hO rO) pa_nil)))) pss_nil)
      (pss_cons (ps_if (pt_not (pt_truth (pe_fld (pv 0) rfl) (fun _ => rfl))) (pss_one (ps_ret (pe_lst (pa_cons (pe_glob rfl hN rN) pa_nil)))) pss_nil)
      (pss_cons (ps_set (i := 3) scFind.nd rfl (Or.inl rfl) (pe_call G2 hr rfl mg2 kp2 b2 .nil pass0 (pa_cons (pe_fld (pv 0) rfl) (pa_cons (pe_fld (pv 0) rfl) (pa_cons (pv 2) (pa_cons pe_bl pa_nil))))))
      (pss_cons (ps_set (i := 4) scFind.nd rfl (Or.inl rfl) (pe_call G2 hr rfl mg2 kp2 b2 .nil pass0 (pa_cons (pe_fld (pv 0) rfl) (pa_cons (pe_fld (pv 0) rfl) (pa_cons (pv 2) (pa_cons pe_bl pa_nil))))))
      (pss_cons (ps_if (pt_cmpR op_eq (pv 3) (pv 4) (nomark _)) (pss_one (ps_ret (pe_lst (pa_cons pe_int pa_nil)))) pss_nil)
      (pss_one (ps_ret (pe_lst (pa_cons (pe_op op_sub (pv 4) (pv 3)) (pa_cons (pv 3) (pa_cons (pe_op op_sub (pv 4) pe_int) pa_nil)))))))))), ?_⟩
    refine ⟨_, rfl, n, rfl, _, rfl, ?_⟩
    cases hin : Sw16.within n 1 65536 with
    | false =>
      refine iteT ⟨by show 1 ≤ sizeLine; decide, fun p hp => k p _ (same_upd hp) hp ?_⟩
      cases st with
      | none =>
        have : Sw16.worked none (.find wt n) = (none, Sw16.says (if (!Sw16.within n 1 65536) = true then -2 else -4)) := rfl
        rw [this, hin]; exact upd_same
      | some t =>
        have : Sw16.worked (some t) (.find wt n) = (some t, Sw16.tellsOf t (.find wt n)) := rfl
        rw [this]
        unfold Sw16.tellsOf
        simp only [hin]
        exact upd_same
    | true =>
      refine iteF ?_
      cases st with
      | none =>
        refine ⟨_, rfl, h, C, dx, _, _, rfl, hh, T.cl, T.nT, hf_text .., _, tru_lst (SqL.of hS), ?_⟩
        refine iteT ⟨by show 1 ≤ sizeLine; decide, fun p hp => k p _ (same_upd hp) hp ?_⟩
        have : Sw16.worked none (.find wt n) = (none, Sw16.says (if (!Sw16.within n 1 65536) = true then -2 else -4)) := rfl
        rw [this, hin]; exact upd_same
      | some t =>
        obtain ⟨o, N, ys, bs, rs, p⟩ := hS
        refine ⟨_, rfl, h, C, dx, _, _, rfl, hh, T.cl, T.nT, hf_text .., _, tru_lst (SqL.of p.text), ?_⟩
        rw [nv_isEmpty p.ne]
        refine iteF ?_
        refine ⟨_, rfl, h, C, dx, _, _, rfl, hh, T.cl, T.nT, hf_text .., _, rfl, h, C, dx, _, _, rfl, hh, T.cl, T.nO, hf_order .., _, rfl, a, b, dd, t, o, wt, false, rfl, SqL.of p.text, SqL.of p.order, hD, p.ends, fun m1 H1 S1 c1 => ?_⟩
        refine ⟨_, rfl, h, C, dx, _, _, rfl, S1 _ _ hh, T.cl, T.nT, hf_text .., _, rfl, h, C, dx, _, _, rfl, S1 _ _ hh, T.cl, T.nO, hf_order .., _, rfl, a, b, dd, t, o, wt, true, rfl, SqL.of (S1 _ _ p.text), SqL.of (S1 _ _ p.order), S1.seq hD, p.ends, fun m2 H2 S2 c2 => ?_⟩
        have S12 := S1.trans S2
        have hf1 := TE.cut_le (s := t) (o := o) (w := wt) c1 c2
        have told := TE.find_told (s := t) (o := o) (w := wt) p.ends hin c1 c2
        have hw : Sw16.worked (some t) (.find wt n) = (some t, Sw16.tellsOf t (.find wt n)) := rfl
        rw [hw, told] at k
        refine ⟨_, rfl, _, rfl, rfl, _, rfl, ?_⟩
        rw [dec_eq]
        refine ite2 (fun hc => ?_) (fun hc => ?_)
        · have hc : ((m1 : Nat) : Int) = (m2 : Nat) := of_decide_eq_true hc
          refine ⟨by show 1 ≤ sizeLine; decide, fun p hp => k p _ (S12.trans (same_upd hp)) (S12.free hp) ?_⟩
          rw [if_pos (by omega)]; exact upd_same
        · have hc : ¬ ((m1 : Nat) : Int) = (m2 : Nat) := fun z => hc (decide_eq_true z)
          refine ⟨_, rfl, _, rfl, _, _, rfl, rfl, _, rfl, _, rfl, _, _, rfl, rfl, by show 3 ≤ sizeLine; decide, fun p hp => k p _ (S12.trans (same_upd hp)) (S12.free hp) ?_⟩
          rw [if_neg (by omega), upd_same]
          show some (HO.lst [V.int ((m2 : Int) - (m1 : Nat)), V.int (m1 : Nat), V.int ((m2 : Nat) - 1)]) = some (HO.lst [V.int ((m2 : Int) - (m1 : Nat)), V.int (m1 : Nat), V.int ((m2 - 1 : Nat) : Int)])
          rw [show ((m2 : Nat) : Int) - 1 = ((m2 - 1 : Nat) : Int) by omega]
theorem scCommon : FnScope ["self", "i", "j", "low", "high"] ["self", "i", "j"] (defScope sCommon) := ⟨rfl, rfl, rfl, by decide +kernel, rfl, by decide +kernel, by decide +kernel⟩
theorem ok_common {f : Addr} {fd : FuncData} (F : Fun K "common" "Holder.common" sCommon f fd) (T : TxtH K mg base c Pt C) (M1 : MCal P w K mg base C 1 "has_place" ["self", "i"] (spHas K C)) : FnOk P w K mg base CX0 2 f fd ["self", "i", "j"] (spRead K C arCommon) := by
  obtain ⟨f1, fd1, m1, b1, G1⟩ := M1
  obtain ⟨uN, hN, rN⟩ := T.gNT
  obtain ⟨uO, hO, rO⟩ := T.gOR
  refine F.ok scCommon (fun vs H Q E h => ?_) (fun cdv A outer s H vs Q E hr h => ?_)
  · obtain ⟨h, q, st, as, cl, rfl, ⟨i, j, rfl, _⟩, _⟩ := h
    rfl
  · obtain ⟨h, q, st, as, cl, rfl, ⟨i, j, rfl, rfl⟩, ⟨dx, a, b, c, d, e, g, hh, -, hS⟩, k⟩ := h
    refine ⟨_, pss_cons (ps_if (pt_not (pt_truth (pe_fld (pv 0) rfl) (fun _ => rfl))) (pss_one (ps_ret (pe_lst (pa_cons (pe_glob rfl hN rN) pa_nil)))) pss_nil)
      (pss_cons (ps_if (PW.pt (pw_or (pt_not (pt_val (pe_meth (pv 0) T.cl m1 G1 hr b1 .nil pass0 (pa_cons (pv 1) pa_nil)))) (pw_or1 (pt_not (pt_val (pe_meth (pv 0) T.cl m1 G1 hr b1 .nil pass0 (pa_cons (pv 2) pa_nil))))))) (pss_one (ps_ret (pe_lst (pa_cons (pe_glob rfl hO rO) pa_nil)))) pss_nil)
      (pss_cons (ps_if (pt_cmpR op_eq (pv 1) (pv 2) (nomark _)) (pss_one (ps_ret (pe_lst (pa_cons (pe_op op_sub (pe_callB call_len_seq rfl T.len PySem.boot_len (pa_cons (pe_fld (pv 0) rfl) pa_nil)) (pv 1)) pa_nil)))) pss_nil)
      (pss_cons (ps_set (i := 3) scCommon.nd rfl (Or.inl rfl) (pe_callB (call_min2 rfl) rfl T.min boot_min (pa_cons (pe_ix ix_list (pe_fld (pv 0) rfl) (pv 1) (fun _ _ => rfl)) (pa_cons (pe_ix ix_list (pe_fld (pv 0) rfl) (pv 2) (fun _ _ => rfl)) pa_nil))))
      (pss_cons (ps_set (i := 4) scCommon.nd rfl (Or.inl rfl) (pe_callB (call_max2 rfl) rfl T.max boot_max (pa_cons (pe_ix ix_list (pe_fld (pv 0) rfl) (pv 1) (fun _ _ => rfl)) (pa_cons (pe_ix ix_list (pe_fld (pv 0) rfl) (pv 2) (fun _ _ => rfl)) pa_nil))))
      (pss_one (ps_ret (pe_lst (pa_cons (pe_callB (cr_min rfl) rfl T.min boot_min (pa_cons (pe_slice sl_list (pe_fld (pv 0) rfl) (po_some (pe_op op_add (pv 3) pe_int)) (po_some (pe_op op_add (pv 4) pe_int))) pa_nil)) pa_nil)))))))), ?_⟩
    cases st with
    | none =>
      refine ⟨_, rfl, h, C, dx, _, _, rfl, hh, T.cl, T.nT, hf_text .., _, tru_lst (SqL.of hS), ?_⟩
      exact iteT ⟨by show 1 ≤ sizeLine; decide, fun p hp => k p _ (same_upd hp) hp upd_same⟩
    | some t =>
      obtain ⟨o, N, ys, bs, rs, p⟩ := hS
      refine ⟨_, rfl, h, C, dx, _, _, rfl, hh, T.cl, T.nT, hf_text .., _, tru_lst (SqL.of p.text), ?_⟩
      rw [nv_isEmpty p.ne]
      refine iteF ?_
      have hw : Sw16.worked (some t) (.common i j) = (some t, if (Sw16.within i 0 (t.length - 1) && Sw16.within j 0 (t.length - 1)) = false then Sw16.says (-2) else Sw16.says (Sw16.common (Sw16.end_ t i.toNat) (Sw16.end_ t j.toNat))) := rfl
      rw [hw] at k
      refine ⟨_, rfl, h, dx, _, rfl, hh, rfl, _, rfl, h, dx, a, b, c, d, e, g, t, i, rfl, hh, p.text, _, rfl, ?_⟩
      cases hi : Sw16.within i 0 (t.length - 1) with
      | false =>
        rw [hi, Bool.false_and, if_pos rfl] at k
        refine iteT ?_
        exact iteT ⟨by show 1 ≤ sizeLine; decide, fun p hp => k p _ (same_upd hp) hp upd_same⟩
      | true =>
        rw [hi, Bool.true_and] at k
        refine iteF ?_
        refine ⟨_, rfl, h, dx, _, rfl, hh, rfl, _, rfl, h, dx, a, b, c, d, e, g, t, j, rfl, hh, p.text, _, rfl, ?_⟩
        cases hj : Sw16.within j 0 (t.length - 1) with
        | false =>
          rw [hj, if_pos rfl] at k
          exact iteT ⟨by show 1 ≤ sizeLine; decide, fun p hp => k p _ (same_upd hp) hp upd_same⟩
        | true =>
          rw [hj, if_neg (by decide)] at k
          refine iteF ?_
          obtain ⟨i1, i2⟩ := within_iff.mp hi
          obtain ⟨j1, j2⟩ := within_iff.mp hj
          obtain ⟨x, rfl⟩ : ∃ x : Nat, i = (x : Int) := ⟨i.toNat, by omega⟩
          obtain ⟨y, rfl⟩ : ∃ y : Nat, j = (y : Int) := ⟨j.toNat, by omega⟩
          rw [Int.toNat_natCast, Int.toNat_natCast] at k
          refine ⟨_, rfl, _, rfl, rfl, _, rfl, ?_⟩
          rw [dec_eq]
          refine ite2 (fun hc => ?_) (fun hc => ?_)
          · have hc : ((x : Nat) : Int) = (y : Nat) := of_decide_eq_true hc
            have hxy : x = y := by omega
            subst hxy
            refine ⟨_, rfl, h, C, dx, _, _, rfl, hh, T.cl, T.nT, hf_text .., a, _, rfl, .inl (SqL.of p.text), _, rfl, _, _, rfl, rfl, by show 1 ≤ sizeLine; decide, fun p' hp => k p' _ (same_upd hp) hp ?_⟩
            rw [upd_same, tl_says, TE.common_self, TE.end_length, nv_len]
            show some (HO.lst [V.int ((t.length : Int) - (x : Nat))]) = some (HO.lst [V.int ((t.length - x : Nat) : Int)])
            rw [show (t.length : Int) - (x : Nat) = ((t.length - x : Nat) : Int) by omega]
          · have hc : ¬ ((x : Nat) : Int) = (y : Nat) := fun z => hc (decide_eq_true z)
            have hol := TE.ends_length p.ends
            have hNl : N.length = t.length := p.num.1.trans hol
            obtain ⟨kx, hkx, ex⟩ := TE.ends_surj p.ends (p := x) (by omega)
            obtain ⟨ky, hky, ey⟩ := TE.ends_surj p.ends (p := y) (by omega)
            have nx : N.getD x 0 = kx := by rw [← ex]; exact p.num.2 kx (by omega)
            have ny : N.getD y 0 = ky := by rw [← ey]; exact p.num.2 ky (by omega)
            have hkk : kx ≠ ky := fun z => by rw [z, ey] at ex; omega
            refine ⟨_, rfl, h, C, dx, _, _, rfl, hh, T.cl, T.nN, hf_numbers .., _, rfl, c, _, _, _, rfl, rfl, SqL.of p.numbers, nat_at (k := x) rfl (by omega), _, rfl, h, C, dx, _, _, rfl, hh, T.cl, T.nN, hf_numbers .., _, rfl, c, _, _, _, rfl, rfl, SqL.of p.numbers, nat_at (k := y) rfl (by omega), _, _, rfl, ?_⟩
            refine ⟨_, rfl, h, C, dx, _, _, rfl, hh, T.cl, T.nN, hf_numbers .., _, rfl, c, _, _, _, rfl, rfl, SqL.of p.numbers, nat_at (k := x) rfl (by omega), _, rfl, h, C, dx, _, _, rfl, hh, T.cl, T.nN, hf_numbers .., _, rfl, c, _, _, _, rfl, rfl, SqL.of p.numbers, nat_at (k := y) rfl (by omega), _, _, rfl, ?_⟩
            rw [nx, ny]
            obtain ⟨lo, hi', hlo, hhi, hlt, hhn, hcm⟩ : ∃ lo hi' : Nat, (if ((ky : Nat) : Int) < (kx : Nat) then ((ky : Nat) : Int) else (kx : Nat)) = (lo : Nat) ∧ (if ((ky : Nat) : Int) > (kx : Nat) then ((ky : Nat) : Int) else (kx : Nat)) = (hi' : Nat) ∧ lo < hi' ∧ hi' < t.length ∧
                Sw16.common (Sw16.end_ t (o.getD lo 0)) (Sw16.end_ t (o.getD hi' 0)) = Sw16.common (Sw16.end_ t x) (Sw16.end_ t y) := by
              rcases Nat.lt_or_gt_of_ne hkk with q | q
              · exact ⟨kx, ky, by rw [if_neg (by omega)], by rw [if_pos (by omega)], q, hky, by rw [ex, ey]⟩
              · exact ⟨ky, kx, by rw [if_pos (by omega)], by rw [if_neg (by omega)], q, hkx, by rw [ex, ey, TE.common_comm]⟩
            have hcut : cutV (nv (shs t o)) (some (((lo : Nat) : Int) + 1)) (some (((hi' : Nat) : Int) + 1)) = (TE.ofNats (((shs t o).drop (lo + 1)).take (hi' - lo))).map V.int := by
              rw [show ((lo : Nat) : Int) + 1 = ((lo + 1 : Nat) : Int) by omega, show ((hi' : Nat) : Int) + 1 = ((lo + 1 + (hi' - lo) : Nat) : Int) by omega, cut_nv, nv_ints]
            refine ⟨_, rfl, h, C, dx, _, _, rfl, hh, T.cl, T.nS, hf_shared .., _, rfl, _, _, rfl, rfl, _, rfl, _, rfl, _, _, rfl, rfl, _, rfl, d, _, rfl, SqL.of p.shared, fun l hl => ?_⟩
            rw [hlo, hhi]
            refine ⟨l, TE.ofNats (((shs t o).drop (lo + 1)).take (hi' - lo)), rfl, SqL.of (by rw [upd_same, ← hcut]), ?_, fun m hm hmin => ?_⟩
            · unfold TE.ofNats
              rw [List.length_map, List.length_take, List.length_drop, shs_len]; omega
            · obtain ⟨m', rfl, hm'⟩ := mem_ofNats hm
              obtain ⟨k1, a1, a2, a3, a4⟩ := mem_slice.mp hm'
              rw [shs_len] at a3
              rw [shs_get a3] at a4
              have h1 := TE.common_le_sh p.ends (a := lo) (b := hi') (j := k1) (by omega) (by omega) hhn
              obtain ⟨jj, b1, b2, b3⟩ := TE.common_is_sh p.ends hlt hhn
              have h2 := hmin _ (of_mem (mem_slice.mpr ⟨jj, by omega, by omega, by rw [shs_len]; omega, shs_get (by omega)⟩))
              have hmm : m' = Sw16.common (Sw16.end_ t x) (Sw16.end_ t y) := by rw [← hcm]; omega
              have Sl : Same H (upd H l (.lst (cutV (nv (shs t o)) (some (((lo : Nat) : Int) + 1)) (some (((hi' : Nat) : Int) + 1))))) := same_upd hl
              refine ⟨by show 1 ≤ sizeLine; decide, fun p' hp => k p' _ (Sl.trans (same_upd hp)) (Sl.free hp) ?_⟩
              rw [upd_same, tl_says, hmm]; rfl
end
end W
end

section
set_option Elab.async false
set_option linter.all false
set_option maxRecDepth 100000
set_option maxHeartbeats 2000000
namespace W
open PySem PySem.Spec PyProof.Rows L2
theorem gl_gs {s o : List Nat} : gl (shs s o) = TE.gs s o := by
  funext j
  unfold gl TE.gs
  by_cases h : j < s.length
  · rw [if_pos h, shs_get h]
  · rw [if_neg h, List.getD_eq_getElem?_getD, List.getElem?_eq_none (by rw [shs_len]; omega)]; rfl
theorem twice_over {s : List Nat} {t : Nat} (h : s.length < t) : Sw16.twiceOf s t = none := TE.twice_none fun v _ hv => by
  have : (Sw16.places s v).length ≤ s.length := by
    unfold Sw16.places
    refine Nat.le_trans (List.length_filter_le _ _) ?_
    rw [List.length_range]; exact Nat.le_refl _
  omega
section
variable {P : Program} {w : World} {K : PySem.W.Frag} {mg : Str → Option Value} {base : Heap} {c Pt C : Addr}
theorem scTwice : FnScope ["self", "times", "run", "length"] ["self", "times"] (defScope sTwice) := ⟨rfl, rfl, rfl, by decide +kernel, rfl, by decide +kernel, by decide +kernel⟩
theorem ok_twice {f : Addr} {fd : FuncData} (F : Fun K "twice" "Holder.twice" sTwice f fd) (T : TxtH K mg base c Pt C) : FnOk P w K mg base CX0 1 f fd ["self", "times"] (spRead K C arTwice) := by
  obtain ⟨uN, hN, rN⟩ := T.gNT
  obtain ⟨uO, hO, rO⟩ := T.gOR
  obtain ⟨uL, hL, rL⟩ := T.gLG
  refine F.ok scTwice (fun vs H Q E h => ?_) (fun cdv A outer s H vs Q E hr h => ?_)
  · obtain ⟨h, q, st, as, cl, rfl, ⟨i, rfl, _⟩, _⟩ := h
    rfl
  · obtain ⟨h, q, st, as, cl, rfl, ⟨i, rfl, rfl⟩, ⟨dx, a, b, c, d, e, g, hh, -, hS⟩, k⟩ := h
    refine ⟨_, pss_cons (ps_if (PW.pt (pw_or (pt_cmpR op_lt (pv 1) pe_int (nomark _)) (pw_or1 (pt_cmpR op_gt (pv 1) (pe_glob rfl hL rL) (nomark _))))) (pss_one (ps_ret (pe_lst (pa_cons (pe_glob rfl hO rO) pa_nil)))) pss_nil)
      (pss_cons (ps_if (pt_not (pt_truth (pe_fld (pv 0) rfl) (fun _ => rfl))) (pss_one (ps_ret (pe_lst (pa_cons (pe_glob rfl hN rN) pa_nil)))) pss_nil)
      (pss_cons (ps_if (pt_cmpR op_gt (pv 1) (pe_callB call_len_seq rfl T.len PySem.boot_len (pa_cons (pe_fld (pv 0) rfl) pa_nil)) (nomark _)) (pss_one (ps_ret (pe_lst (pa_cons pe_int pa_nil)))) pss_nil)
      (pss_cons (ps_set (i := 2) scTwice.nd rfl (Or.inl rfl) (pe_ix ix_list (pe_fld (pv 0) rfl) (pv 1) (fun _ _ => rfl)))
      (pss_cons (ps_set (i := 3) scTwice.nd rfl (Or.inl rfl) (pe_ix ix_tup (pv 2) pe_int (fun _ _ => rfl)))
      (pss_cons (ps_if (pt_cmpR op_eq (pv 3) pe_int (nomark _)) (pss_one (ps_ret (pe_lst (pa_cons pe_int pa_nil)))) pss_nil)
      (pss_one (ps_ret (pe_lst (pa_cons (pv 3) (pa_cons (pv 3) (pa_cons (pe_callB (cr_min rfl) rfl T.min boot_min (pa_cons (pe_slice sl_list (pe_fld (pv 0) rfl) (po_some (pe_ix ix_tup (pv 2) pe_int (fun _ _ => rfl))) (po_some (pe_op op_add (pe_ix ix_tup (pv 2) pe_int (fun _ _ => rfl)) (pe_ix ix_tup (pv 2) pe_int (fun _ _ => rfl))))) pa_nil)) pa_nil))))))))))), ?_⟩
    have hwS : ∀ t, Sw16.worked (some t) (.twice i) = (some t, if Sw16.within i 2 65536 = false then Sw16.says (-2) else match Sw16.twiceOf t i.toNat with | some (n, j) => ⟨(n : Int), [n, j], []⟩ | none => Sw16.says 0) := fun _ => rfl
    have hwN : Sw16.worked none (.twice i) = (none, Sw16.says (if (!Sw16.within i 2 65536) = true then -2 else -4)) := rfl
    have out : Sw16.within i 2 65536 = false → ∀ p, H p = none → Q (.ref p) (upd H p (.lst [V.int (-2)])) := fun hin p hp => k p _ (same_upd hp) hp (by
      cases st with
      | none => rw [hwN, hin]; exact upd_same
      | some t => rw [hwS, hin, if_pos rfl]; exact upd_same)
    refine ⟨_, rfl, _, _, rfl, rfl, _, rfl, ?_⟩
    refine ite2 (fun hc => ?_) (fun hc => ?_)
    · have hc : i < 2 := of_decide_eq_true hc
      exact iteT ⟨by show 1 ≤ sizeLine; decide, out (by unfold Sw16.within; rw [decide_eq_false (by omega)]; rfl)⟩
    · have hc : ¬ i < 2 := fun z => hc (decide_eq_true z)
      refine ⟨_, rfl, _, _, rfl, rfl, _, rfl, ?_⟩
      refine ite2 (fun hd => ?_) (fun hd => ?_)
      · have hd : (65536 : Int) < i := of_decide_eq_true hd
        exact ⟨by show 1 ≤ sizeLine; decide, out (by unfold Sw16.within; rw [decide_eq_true (show (2 : Int) ≤ i by omega), decide_eq_false (by omega)]; rfl)⟩
      · have hd : ¬ (65536 : Int) < i := fun z => hd (decide_eq_true z)
        have hin : Sw16.within i 2 65536 = true := within_iff.mpr ⟨by omega, by omega⟩
        cases st with
        | none =>
          refine ⟨_, rfl, h, C, dx, _, _, rfl, hh, T.cl, T.nT, hf_text .., _, tru_lst (SqL.of hS), ?_⟩
          refine iteT ⟨by show 1 ≤ sizeLine; decide, fun p hp => k p _ (same_upd hp) hp ?_⟩
          rw [hwN, hin]; exact upd_same
        | some t =>
          obtain ⟨o, N, ys, bs, rs, p⟩ := hS
          rw [hwS, hin, if_neg (by decide)] at k
          obtain ⟨x, rfl⟩ : ∃ x : Nat, i = (x : Int) := ⟨i.toNat, by omega⟩
          rw [Int.toNat_natCast] at k
          refine ⟨_, rfl, h, C, dx, _, _, rfl, hh, T.cl, T.nT, hf_text .., _, tru_lst (SqL.of p.text), ?_⟩
          rw [nv_isEmpty p.ne]
          refine iteF ?_
          refine ⟨_, rfl, _, rfl, h, C, dx, _, _, rfl, hh, T.cl, T.nT, hf_text .., a, _, rfl, .inl (SqL.of p.text), _, _, rfl, rfl, _, rfl, ?_⟩
          rw [nv_len]
          refine ite2 (fun hx => ?_) (fun hx => ?_)
          · have hx : ((t.length : Nat) : Int) < (x : Nat) := of_decide_eq_true hx
            refine ⟨by show 1 ≤ sizeLine; decide, fun p' hp => k p' _ (same_upd hp) hp ?_⟩
            rw [twice_over (by omega)]; exact upd_same
          · have hx : ¬ ((t.length : Nat) : Int) < (x : Nat) := fun z => hx (decide_eq_true z)
            have hol := TE.ends_length p.ends
            have hbl := p.bestLen
            obtain ⟨r, hr'⟩ : ∃ r, bs[x]? = some r := ⟨_, List.getElem?_eq_getElem (by omega)⟩
            obtain ⟨v, hv, ⟨rr, rfl, hrr⟩⟩ := p.runsAt.at (z := ((x : Nat) : Int)) (i := x) rfl hr'
            have hb := p.bestAt x r hr'
            have hruns := p.runs
            rw [gl_gs] at hruns
            have tw := TE.twice_best p.ends hruns (t := x) (by omega) hb
            obtain ⟨L, f0, c0⟩ := r
            refine ⟨_, rfl, h, C, dx, _, _, rfl, hh, T.cl, T.nB, hf_best .., _, rfl, e, _, _, _, rfl, rfl, SqL.of p.best, hv, ?_⟩
            refine ⟨_, rfl, rr, _, _, _, rfl, rfl, hrr, at_of (j := 0) rfl rfl, ?_⟩
            refine ⟨_, rfl, rfl, _, rfl, ?_⟩
            rw [dec_eq]
            refine ite2 (fun hz => ?_) (fun hz => ?_)
            · have hz : ((L : Nat) : Int) = 0 := of_decide_eq_true hz
              refine ⟨by show 1 ≤ sizeLine; decide, fun p' hp => k p' _ (same_upd hp) hp ?_⟩
              rw [tw, if_pos (by show L = 0; omega)]; exact upd_same
            · have hz : ¬ ((L : Nat) : Int) = 0 := fun z => hz (decide_eq_true z)
              have hL0 : L ≠ 0 := by omega
              have hrun : TE.IsRun (TE.gs t o) t.length (L, f0, c0) := by
                rcases hb.in_ with z | z
                · exact (hL0 (congrArg Prod.fst z)).elim
                · exact hruns.ok _ z.1
              have hle : f0 + c0 ≤ t.length := hrun.le
              have h2 : 2 ≤ c0 := hrun.two
              have hcut : cutV (nv o) (some ((f0 : Nat) : Int)) (some (((f0 : Nat) : Int) + (c0 : Nat))) = (TE.ofNats ((o.drop f0).take c0)).map V.int := by
                rw [show ((f0 : Nat) : Int) + (c0 : Nat) = ((f0 + c0 : Nat) : Int) by omega, cut_nv, nv_ints]
              refine ⟨_, rfl, _, rfl, _, rfl, h, C, dx, _, _, rfl, hh, T.cl, T.nO, hf_order .., _, rfl, rr, _, _, _, rfl, rfl, hrr, at_of (j := 1) rfl rfl, _, rfl, _, rfl, rr, _, _, _, rfl, rfl, hrr, at_of (j := 1) rfl rfl, _, rfl, rr, _, _, _, rfl, rfl, hrr, at_of (j := 2) rfl rfl, _, _, rfl, rfl, _, rfl,
                b, _, rfl, SqL.of p.order, fun l hl => ?_⟩
              refine ⟨l, TE.ofNats ((o.drop f0).take c0), rfl, SqL.of (by rw [upd_same, ← hcut]), ?_, fun m hm hmin => ?_⟩
              · unfold TE.ofNats
                rw [List.length_map, List.length_take, List.length_drop]; omega
              · obtain ⟨m', rfl, hm'⟩ := mem_ofNats hm
                obtain ⟨k1, a1, a2, a3, a4⟩ := mem_slice.mp hm'
                have fst := TE.run_first p.ends hrun (m := m') ⟨k1, a1, a2, a4⟩ fun kk b1 b2 => by
                  have := hmin _ (of_mem (mem_slice.mpr ⟨kk, b1, b2, by omega, rfl⟩))
                  omega
                have Sl : Same H (upd H l (.lst (cutV (nv o) (some ((f0 : Nat) : Int)) (some (((f0 : Nat) : Int) + (c0 : Nat)))))) := same_upd hl
                refine ⟨by show 3 ≤ sizeLine; decide, fun p' hp => k p' _ (Sl.trans (same_upd hp)) (Sl.free hp) ?_⟩
                rw [tw, if_neg hL0, upd_same]
                show _ = some (HO.lst ((tl ⟨(L : Int), [L, Sw16.firstOf t ((Sw16.end_ t (o.getD f0 0)).take L)], []⟩).map V.int))
                rw [fst]
                rfl
theorem scPieces : FnScope ["self"] ["self"] (defScope sPieces) := ⟨rfl, rfl, rfl, by decide +kernel, rfl, by decide +kernel, by decide +kernel⟩
theorem ok_pieces {f : Addr} {fd : FuncData} (F : Fun K "pieces" "Holder.pieces" sPieces f fd) (T : TxtH K mg base c Pt C) : FnOk P w K mg base CX0 1 f fd ["self"] (spRead K C arPieces) := by
  obtain ⟨uN, hN, rN⟩ := T.gNT
  refine F.ok scPieces (fun vs H Q E h => ?_) (fun cdv A outer s H vs Q E hr h => ?_)
  · obtain ⟨h, q, st, as, cl, rfl, ⟨rfl, _⟩, _⟩ := h
    rfl
  · obtain ⟨h, q, st, as, cl, rfl, ⟨rfl, rfl⟩, ⟨dx, a, b, c, d, e, g, hh, -, hS⟩, k⟩ := h
    refine ⟨_, pss_cons (ps_if (pt_not (pt_truth (pe_fld (pv 0) rfl) (fun _ => rfl))) (pss_one (ps_ret (pe_lst (pa_cons (pe_glob rfl hN rN) pa_nil)))) pss_nil)
      (pss_one (ps_ret (pe_lst (pa_cons pe_int (pa_cons (pe_ix ix_list (pe_fld (pv 0) rfl) (pe_un un_neg pe_int) (fun _ _ => rfl)) pa_nil))))), ?_⟩
    cases st with
    | none =>
      refine ⟨_, rfl, h, C, dx, _, _, rfl, hh, T.cl, T.nT, hf_text .., _, tru_lst (SqL.of hS), ?_⟩
      exact iteT ⟨by show 1 ≤ sizeLine; decide, fun p hp => k p _ (same_upd hp) hp upd_same⟩
    | some t =>
      obtain ⟨o, N, ys, bs, rs, p⟩ := hS
      refine ⟨_, rfl, h, C, dx, _, _, rfl, hh, T.cl, T.nT, hf_text .., _, tru_lst (SqL.of p.text), ?_⟩
      rw [nv_isEmpty p.ne]
      refine iteF ?_
      refine ⟨_, rfl, h, C, dx, _, _, rfl, hh, T.cl, T.nP, hf_before .., _, rfl, g, _, _, _, rfl, rfl, SqL.of p.before, neg_at (by rw [pbs_len]; omega), by show 2 ≤ sizeLine; decide, fun p' hp => k p' _ (same_upd hp) hp ?_⟩
      rw [upd_same, pbs_len, Nat.add_sub_cancel, pbs_get (by omega)]
      have hw : Sw16.worked (some t) .pieces = (some t, ⟨0, [(Sw16.piecesOf t).length], []⟩) := rfl
      rw [hw, TE.pieces_len p.ends]
      rfl
theorem scPiece : FnScope ["self", "k", "first", "length", "behind"] ["self", "k"] (defScope sPiece) := ⟨rfl, rfl, rfl, by decide +kernel, rfl, by decide +kernel, by decide +kernel⟩
theorem ok_piece {f : Addr} {fd : FuncData} (F : Fun K "piece" "Holder.piece" sPiece f fd) (T : TxtH K mg base c Pt C) (C1 : Cal P w K mg base 1 "end_with_new" ["before", "k"] (spNew K)) (C2 : Cal P w K mg base 1 "run_behind" ["shared", "first", "length"] (spBehind K)) :
    FnOk P w K mg base CX0 2 f fd ["self", "k"] (spRead K C arPiece) := by
  obtain ⟨f1, fd1, mg1, kp1, b1, G1⟩ := C1
  obtain ⟨f2, fd2, mg2, kp2, b2, G2⟩ := C2
  obtain ⟨uN, hN, rN⟩ := T.gNT
  obtain ⟨uO, hO, rO⟩ := T.gNS
  refine F.ok scPiece (fun vs H Q E h => ?_) (fun cdv A outer s H vs Q E hr h => ?_)
  · obtain ⟨h, q, st, as, cl, rfl, ⟨i, rfl, _⟩, _⟩ := h
    rfl
  · obtain ⟨h, q, st, as, cl, rfl, ⟨i, rfl, rfl⟩, ⟨dx, a, b, c, d, e, g, hh, -, hS⟩, k⟩ := h
    refine ⟨_, pss_cons (ps_if (pt_not (pt_truth (pe_fld (pv 0) rfl) (fun _ => rfl))) (pss_one (ps_ret (pe_lst (pa_cons (pe_glob rfl hN rN) pa_nil)))) pss_nil)
      (pss_cons (ps_if (pt_cmpR op_ge (pv 1) (pe_ix ix_list (pe_fld (pv 0) rfl) (pe_un un_neg pe_int) (fun _ _ => rfl)) (nomark _)) (pss_one (ps_ret (pe_lst (pa_cons (pe_glob rfl hO rO) pa_nil)))) pss_nil)
      (pss_cons (ps_set (i := 2) scPiece.nd rfl (Or.inl rfl) (pe_call G1 hr rfl mg1 kp1 b1 .nil pass0 (pa_cons (pe_fld (pv 0) rfl) (pa_cons (pv 1) pa_nil))))
      (pss_cons (ps_set (i := 3) scPiece.nd rfl (Or.inl rfl) (pe_op op_sub (pe_op op_add (pe_op op_add (pe_ix ix_list (pe_fld (pv 0) rfl) (pv 2) (fun _ _ => rfl)) pe_int) (pv 1)) (pe_ix ix_list (pe_fld (pv 0) rfl) (pv 2) (fun _ _ => rfl))))
      (pss_cons (ps_set (i := 4) scPiece.nd rfl (Or.inl rfl) (pe_call G2 hr rfl mg2 kp2 b2 .nil pass0 (pa_cons (pe_fld (pv 0) rfl) (pa_cons (pv 2) (pa_cons (pv 3) pa_nil)))))
      (pss_one (ps_ret (pe_lst (pa_cons pe_int (pa_cons (pe_callB (cr_min rfl) rfl T.min boot_min (pa_cons (pe_slice sl_list (pe_fld (pv 0) rfl) (po_some (pv 2)) (po_some (pv 4))) pa_nil)) (pa_cons (pv 3) pa_nil)))))))))), ?_⟩
    cases st with
    | none =>
      refine ⟨_, rfl, h, C, dx, _, _, rfl, hh, T.cl, T.nT, hf_text .., _, tru_lst (SqL.of hS), ?_⟩
      exact iteT ⟨by show 1 ≤ sizeLine; decide, fun p hp => k p _ (same_upd hp) hp upd_same⟩
    | some t =>
      obtain ⟨o, N, ys, bs, rs, p⟩ := hS
      have hw : Sw16.worked (some t) (.piece i) = (some t, Sw16.tellsOf t (.piece i)) := rfl
      rw [hw] at k
      have hol := TE.ends_length p.ends
      have hlen := p.len
      have hpos : 0 < t.length := List.length_pos_iff.mpr p.ne
      refine ⟨_, rfl, h, C, dx, _, _, rfl, hh, T.cl, T.nT, hf_text .., _, tru_lst (SqL.of p.text), ?_⟩
      rw [nv_isEmpty p.ne]
      refine iteF ?_
      refine ⟨_, rfl, _, rfl, h, C, dx, _, _, rfl, hh, T.cl, T.nP, hf_before .., _, rfl, g, _, _, _, rfl, rfl, SqL.of p.before, neg_at (by rw [pbs_len]; omega), _, _, rfl, rfl, _, rfl, ?_⟩
      rw [pbs_len, Nat.add_sub_cancel, pbs_get (by omega)]
      refine ite2 (fun hc => ?_) (fun hc => ?_)
      · have hc : ((TE.pb t o t.length : Nat) : Int) ≤ (i : Nat) := of_decide_eq_true hc
        refine ⟨by show 1 ≤ sizeLine; decide, fun p' hp => k p' _ (same_upd hp) hp ?_⟩
        rw [TE.piece_over p.ends (by omega)]; exact upd_same
      · have hc : ¬ ((TE.pb t o t.length : Nat) : Int) ≤ (i : Nat) := fun z => hc (decide_eq_true z)
        refine ⟨_, rfl, h, C, dx, _, _, rfl, hh, T.cl, T.nP, hf_before .., _, rfl, g, pbs t o, i, rfl, SqL.of p.before, by rw [pbs_len]; omega, by rw [pbs_get (by omega)]; exact Nat.zero_le _, by rw [pbs_len, Nat.add_sub_cancel, pbs_get (by omega)]; omega, fun f0 q1 q2 q3 => ?_⟩
        rw [pbs_len] at q1
        rw [pbs_get (by omega)] at q2 q3
        have q3' : i < TE.pb t o f0 + (t.length - o.getD f0 0 - TE.sh t o f0) := q3
        have hlo := TE.ends_lt p.ends (k := f0) (by omega)
        refine ⟨_, rfl, h, C, dx, _, _, rfl, hh, T.cl, T.nS, hf_shared .., _, rfl, d, _, _, _, rfl, rfl, SqL.of p.shared, nat_at (k := f0) rfl (by rw [shs_len]; omega), _, _, rfl, rfl, _, rfl, _, _, rfl, rfl,
          _, rfl, h, C, dx, _, _, rfl, hh, T.cl, T.nP, hf_before .., _, rfl, g, _, _, _, rfl, rfl, SqL.of p.before, nat_at (k := f0) rfl (by rw [pbs_len]; omega), _, _, rfl, rfl, ?_⟩
        rw [shs_get (by omega), pbs_get (by omega)]
        have hln : ((TE.sh t o f0 : Nat) : Int) + 1 + (i : Nat) - (TE.pb t o f0 : Nat) = ((TE.sh t o f0 + 1 + (i - TE.pb t o f0) : Nat) : Int) := by omega
        generalize hLn : TE.sh t o f0 + 1 + (i - TE.pb t o f0) = ln at hln
        refine ⟨_, rfl, h, C, dx, _, _, rfl, hh, T.cl, T.nS, hf_shared .., _, rfl, _, rfl, d, shs t o, f0, ln, ?_, SqL.of p.shared, by rw [shs_len]; omega, by rw [shs_len]; omega, fun bh r1 r2 r3 r4 => ?_⟩
        · show [V.ref d, V.int (f0 : Nat), V.int (((TE.sh t o f0 : Nat) : Int) + 1 + (i : Nat) - (TE.pb t o f0 : Nat))] = _
          rw [hln]
        · rw [shs_len] at r2 r4
          have hcut : cutV (nv o) (some ((f0 : Nat) : Int)) (some ((bh : Nat) : Int)) = (TE.ofNats ((o.drop f0).take (bh - f0))).map V.int := by
            rw [show ((bh : Nat) : Int) = ((f0 + (bh - f0) : Nat) : Int) by omega, cut_nv, nv_ints]
          refine ⟨_, rfl, h, C, dx, _, _, rfl, hh, T.cl, T.nO, hf_order .., _, rfl, _, rfl, _, rfl, _, rfl, b, _, rfl, SqL.of p.order, fun l hl => ?_⟩
          refine ⟨l, TE.ofNats ((o.drop f0).take (bh - f0)), rfl, SqL.of (by rw [upd_same, ← hcut]), ?_, fun m hm hmin => ?_⟩
          · unfold TE.ofNats
            rw [List.length_map, List.length_take, List.length_drop]; omega
          · obtain ⟨m', rfl, hm'⟩ := mem_ofNats hm
            obtain ⟨k1, a1, a2, a3, a4⟩ := mem_slice.mp hm'
            have told := TE.piece_told p.ends (f := f0) (b := bh) (K := i) (m := m') (by omega) q2 q3 r1 r2
              (fun kk b1 b2 => by rw [hLn]; have := r3 kk b1 b2; rwa [shs_get (by omega)] at this) (fun z => by rw [hLn]; have := r4 z; rwa [shs_get (by omega)] at this)
              ⟨k1, a1, by omega, a4⟩ (fun kk b1 b2 => by have := hmin _ (of_mem (mem_slice.mpr ⟨kk, b1, by omega, by omega, rfl⟩)); omega)
            have Sl : Same H (upd H l (.lst (cutV (nv o) (some ((f0 : Nat) : Int)) (some ((bh : Nat) : Int))))) := same_upd hl
            refine ⟨_, rfl, by show 3 ≤ sizeLine; decide, fun p' hp => k p' _ (Sl.trans (same_upd hp)) (Sl.free hp) ?_⟩
            rw [upd_same, told, hLn]
            show some (HO.lst [V.int 0, V.int (m' : Nat), V.int (((TE.sh t o f0 : Nat) : Int) + 1 + (i : Nat) - (TE.pb t o f0 : Nat))]) = _
            rw [hln]
            rfl
theorem scTurnM : FnScope ["self"] ["self"] (defScope sTurnM) := ⟨rfl, rfl, rfl, by decide +kernel, rfl, by decide +kernel, by decide +kernel⟩
theorem ok_turnM {f : Addr} {fd : FuncData} (F : Fun K "turn" "Holder.turn" sTurnM f fd) (T : TxtH K mg base c Pt C) (C1 : Cal P w K mg base 1 "turn_text" ["text", "order"] (spTurn K)) : FnOk P w K mg base CX0 2 f fd ["self"] (spRead K C arTurn) := by
  obtain ⟨f1, fd1, mg1, kp1, b1, G1⟩ := C1
  obtain ⟨uN, hN, rN⟩ := T.gNT
  refine F.ok scTurnM (fun vs H Q E h => ?_) (fun cdv A outer s H vs Q E hr h => ?_)
  · obtain ⟨h, q, st, as, cl, rfl, ⟨rfl, _⟩, _⟩ := h
    rfl
  · obtain ⟨h, q, st, as, cl, rfl, ⟨rfl, rfl⟩, ⟨dx, a, b, c, d, e, g, hh, -, hS⟩, k⟩ := h
    refine ⟨_, pss_cons (ps_if (pt_not (pt_truth (pe_fld (pv 0) rfl) (fun _ => rfl))) (pss_one (ps_ret (pe_lst (pa_cons (pe_glob rfl hN rN) pa_nil)))) pss_nil)
      (pss_one (ps_ret (pe_op op_cat (pe_lst (pa_cons (pe_ix ix_list (pe_fld (pv 0) rfl) pe_int (fun _ _ => rfl)) pa_nil)) (pe_call G1 hr rfl mg1 kp1 b1 .nil pass0 (pa_cons (pe_fld (pv 0) rfl) (pa_cons (pe_fld (pv 0) rfl) pa_nil)))))), ?_⟩
    cases st with
    | none =>
      refine ⟨_, rfl, h, C, dx, _, _, rfl, hh, T.cl, T.nT, hf_text .., _, tru_lst (SqL.of hS), ?_⟩
      exact iteT ⟨by show 1 ≤ sizeLine; decide, fun p hp => k p _ (same_upd hp) hp upd_same⟩
    | some t =>
      obtain ⟨o, N, ys, bs, rs, p⟩ := hS
      have hol := TE.ends_length p.ends
      have hpos : 0 < t.length := List.length_pos_iff.mpr p.ne
      have hlen := p.len
      have hNl : N.length = t.length := p.num.1.trans hol
      refine ⟨_, rfl, h, C, dx, _, _, rfl, hh, T.cl, T.nT, hf_text .., _, tru_lst (SqL.of p.text), ?_⟩
      rw [nv_isEmpty p.ne]
      refine iteF ?_
      refine ⟨_, rfl, h, C, dx, _, _, rfl, hh, T.cl, T.nN, hf_numbers .., c, _, _, _, rfl, rfl, SqL.of p.numbers, nat_at (k := 0) rfl (by omega), by show 1 ≤ sizeLine; decide, fun l hl => ?_⟩
      have S1 : Same H (upd H l (.lst [V.int (N.getD 0 0 : Nat)])) := same_upd hl
      refine ⟨_, rfl, h, C, dx, _, _, rfl, S1 _ _ hh, T.cl, T.nT, hf_text .., _, rfl, h, C, dx, _, _, rfl, S1 _ _ hh, T.cl, T.nO, hf_order .., a, b, t, o, rfl, SqL.of (S1 _ _ p.text), SqL.of (S1 _ _ p.order), p.ends, by omega, fun q2 H2 S2 n2 e2 => ?_⟩
      refine ⟨l, q2, _, _, rfl, rfl, S2 _ _ upd_same, e2, by rw [nv_len, List.length_map, hol, sizeLine_eq]; simp; omega, fun p' hp => k p' _ ((S1.trans S2).trans (same_upd hp)) ((S1.trans S2).free hp) ?_⟩
      rw [upd_same]
      have hw : Sw16.worked (some t) .turn = (some t, ⟨((Sw16.turnedOf t).2 : Int), [], (Sw16.turnedOf t).1⟩) := rfl
      rw [hw, TE.turned_is p.ends, TE.turned_first p.ends p.ne p.num.2, nv_ints (o.map (TE.tb t))]
      rfl
end
end W
end

section
set_option Elab.async false
set_option linter.all false
set_option maxRecDepth 100000
set_option maxHeartbeats 2000000
namespace W
open PySem PySem.Spec PyProof.Rows L2
/-! ### what a call leaves as it was -/
def Fw (h Pt : Addr) (H H' : Hp) : Prop := ∀ b o, H b = some o → b ≠ h → b ≠ Pt → H' b = some o
section
variable {K : PySem.W.Frag} {h Pt C dx : Addr} {H H' H1 H2 : Hp} {fs fs' : List (Str × V)} {l : Addr} {xs : List V}
theorem Fw.trans (a : Fw h Pt H H1) (b : Fw h Pt H1 H2) : Fw h Pt H H2 := fun x o e n1 n2 => b x o (a x o e n1 n2) n1 n2
theorem Fw.same (a : Same H H') : Fw h Pt H H' := fun x o e _ _ => a x o e
theorem Fw.gr (a : Gr Pt H H') : Fw h Pt H H' := fun x o e _ n => a.1 x o e n
theorem Fw.store {o : HO} : Fw h Pt H (upd H h o) := fun x u e n _ => by rw [upd_ne n]; exact e
theorem Fw.lst (a : Fw h Pt H H') (hh : H h = some (.ins C dx fs)) (T : Tb Pt H) (e : H l = some (.lst xs)) : H' l = some (.lst xs) :=
  a l _ e (ne_of e hh (by intro z; cases z)) (tb_ne T e fun _ z => by cases z)
theorem Fw.seq (a : Fw h Pt H H') (hh : H h = some (.ins C dx fs)) (T : Tb Pt H) (e : SqL K H l xs) : SqL K H' l xs := by
  rcases e with (e | ⟨o, e⟩) | e
  · exact .inl (.inl (a.lst hh T e))
  · exact .inl (.inr ⟨o, a l _ e (ne_of e hh (by intro z; cases z)) (tb_ne T e fun _ z => by cases z)⟩)
  · exact .inr e
theorem Fw.tup (a : Fw h Pt H H') (hh : H h = some (.ins C dx fs)) (T : Tb Pt H) (e : SqT K H l xs) : SqT K H' l xs := by
  rcases e with (e | ⟨o, e⟩) | e
  · exact .inl (.inl (a l _ e (ne_of e hh (by intro z; cases z)) (tb_ne T e fun _ z => by cases z)))
  · exact .inl (.inr ⟨o, a l _ e (ne_of e hh (by intro z; cases z)) (tb_ne T e fun _ z => by cases z)⟩)
  · exact .inr e
theorem Fw.none (a : Fw h Pt H H') (hh : H' h = some (.ins C dx fs)) (T : Tb Pt H') {p : Addr} (e : H' p = none) : H p = none := by
  cases q : H p with
  | none => rfl
  | some o =>
    by_cases h1 : p = h
    · subst h1; rw [hh] at e; cases e
    · by_cases h2 : p = Pt
      · subst h2
        rcases T with T | ⟨_, T, _⟩ <;> rw [e] at T <;> cases T
      · have := a p o q h1 h2
        rw [e] at this; cases this
theorem tb_store (T : Tb Pt H) (hh : H h = some (.ins C dx fs)) : Tb Pt (upd H h (.ins C dx fs')) := by
  rcases T with T | ⟨c, T, Tc⟩
  · exact .inl (by rw [upd_ne (ne_of T hh (by intro z; cases z))]; exact T)
  · exact .inr ⟨c, by rw [upd_ne (ne_of T hh (by intro z; cases z))]; exact T, by rw [upd_ne (ne_of Tc hh (by intro z; cases z))]; exact Tc⟩
theorem tb_same (T : Tb Pt H) (s : Same H H') : Tb Pt H' := (gr_same T s).2
theorem lst_store (hh : H h = some (.ins C dx fs)) (e : H l = some (.lst xs)) : (upd H h (.ins C dx fs')) l = some (.lst xs) := by rw [upd_ne (ne_of e hh (by intro z; cases z))]; exact e
end
/-- a call that may write -/
def spWrite (K : PySem.W.Frag) (C Pt : Addr) (ar : Hp → List V → Sw16.Call → Prop) : Sp := fun vs H Q _ => ∃ (h q : Addr) (st : Option (List Nat)) (as : List V) (cl : Sw16.Call) (zs : List V), vs = .ref h :: as ∧ ar H as cl ∧ HoldAt K C H h q st ∧ H q = some (.lst zs) ∧ Tb Pt H ∧
  ∀ (p : Addr) (H' : Hp), HoldAt K C H' h q (Sw16.worked st cl).1 → Tb Pt H' → Fw h Pt H H' → H p = none → H' p = some (.lst ((tl (Sw16.worked st cl).2).map V.int)) → Q (.ref p) H'
def arHold (K : PySem.W.Frag) (H : Hp) (as : List V) (cl : Sw16.Call) : Prop := ∃ (n : Int) (d : Addr) (x : List Nat), as = [.int n, .ref d] ∧ SqL K H d (nv x) ∧ cl = .open_ x n ∧ (Sw16.within n 1 65536 = true → (x.length : Int) = n)
def arBack (K : PySem.W.Frag) (H : Hp) (as : List V) (cl : Sw16.Call) : Prop := ∃ (n f : Int) (d : Addr) (x : List Nat), as = [.int n, .int f, .ref d] ∧ SqL K H d (nv x) ∧ cl = .back x n f ∧ ((Sw16.within n 1 65536 && Sw16.within f 0 (n - 1)) = true → (x.length : Int) = n)
def spInit (C : Addr) : Sp := fun vs H Q _ => ∃ (p dx : Addr), vs = [.ref p] ∧ H p = some (.ins C dx []) ∧
  ∀ (H' : Hp) (a b c d e g : Addr), H' p = some (.ins C dx (hf a b c d e g)) → (∀ x ∈ [a, b, c, d, e, g], H' x = some (.lst [])) → (∀ b o, H b = some o → b ≠ p → H' b = some o) → Q .non H'
theorem fld_step {H : Hp} {p C dx l : Addr} {fs fs' : List (Str × V)} (hp : H p = some (.ins C dx fs)) (hl : H l = none) :
    (upd (upd H l (.lst [])) p (.ins C dx fs')) l = some (.lst []) ∧ ∀ b o, H b = some o → b ≠ p → (upd (upd H l (.lst [])) p (.ins C dx fs')) b = some o := by
  have hne : l ≠ p := (ne_of_none hp hl).symm
  refine ⟨by rw [upd_ne hne]; exact upd_same, fun b o e hb => by rw [upd_ne hb, upd_ne (ne_of_none e hl)]; exact e⟩
section
variable {P : Program} {w : World} {K : PySem.W.Frag} {mg : Str → Option Value} {base : Heap} {c Pt C : Addr}
theorem scInit : FnScope ["self"] ["self"] (defScope sInit) := ⟨rfl, rfl, rfl, by decide +kernel, rfl, by decide +kernel, by decide +kernel⟩
theorem ok_init {f : Addr} {fd : FuncData} (F : Fun K "__init__" "Holder.__init__" sInit f fd) (T : TxtH K mg base c Pt C) : FnOk P w K mg base CX0 1 f fd ["self"] (spInit C) := by
  refine F.ok scInit (fun vs H Q E h => ?_) (fun cdv A outer s H vs Q E hr h => ?_)
  · obtain ⟨p, dx, rfl, _⟩ := h
    rfl
  · obtain ⟨p, dx, rfl, hp, k⟩ := h
    refine ⟨_, pss_cons (ps_fld (pv 0) (pe_lst pa_nil) rfl) (pss_cons (ps_fld (pv 0) (pe_lst pa_nil) rfl) (pss_cons (ps_fld (pv 0) (pe_lst pa_nil) rfl)
      (pss_cons (ps_fld (pv 0) (pe_lst pa_nil) rfl) (pss_cons (ps_fld (pv 0) (pe_lst pa_nil) rfl) (pss_one (ps_fld (pv 0) (pe_lst pa_nil) rfl)))))), ?_⟩
    refine ⟨Nat.zero_le _, fun l1 n1 => ⟨_, rfl, p, C, dx, _, rfl, by rw [upd_ne (ne_of_none hp n1)]; exact hp, T.cl, T.nT, by show 0 < 1000; decide, ?_⟩⟩
    obtain ⟨a1, k1⟩ := fld_step (fs' := putF "text" (.ref l1) []) hp n1
    generalize hH1 : upd (upd H l1 (.lst [])) p (.ins C dx (putF "text" (.ref l1) [])) = H1 at a1 k1
    have p1 : H1 p = some (.ins C dx (putF "text" (.ref l1) [])) := by rw [← hH1]; exact upd_same
    refine ⟨Nat.zero_le _, fun l2 n2 => ⟨_, rfl, p, C, dx, _, rfl, by rw [upd_ne (ne_of_none p1 n2)]; exact p1, T.cl, T.nO, by show 1 < 1000; decide, ?_⟩⟩
    obtain ⟨a2, k2⟩ := fld_step (fs' := putF "order" (.ref l2) (putF "text" (.ref l1) [])) p1 n2
    generalize hH2 : upd (upd H1 l2 (.lst [])) p (.ins C dx (putF "order" (.ref l2) (putF "text" (.ref l1) []))) = H2 at a2 k2
    have p2 : H2 p = some (.ins C dx (putF "order" (.ref l2) (putF "text" (.ref l1) []))) := by rw [← hH2]; exact upd_same
    refine ⟨Nat.zero_le _, fun l3 n3 => ⟨_, rfl, p, C, dx, _, rfl, by rw [upd_ne (ne_of_none p2 n3)]; exact p2, T.cl, T.nN, by show 2 < 1000; decide, ?_⟩⟩
    obtain ⟨a3, k3⟩ := fld_step (fs' := putF "numbers" (.ref l3) (putF "order" (.ref l2) (putF "text" (.ref l1) []))) p2 n3
    generalize hH3 : upd (upd H2 l3 (.lst [])) p (.ins C dx (putF "numbers" (.ref l3) (putF "order" (.ref l2) (putF "text" (.ref l1) [])))) = H3 at a3 k3
    have p3 : H3 p = some (.ins C dx (putF "numbers" (.ref l3) (putF "order" (.ref l2) (putF "text" (.ref l1) [])))) := by rw [← hH3]; exact upd_same
    refine ⟨Nat.zero_le _, fun l4 n4 => ⟨_, rfl, p, C, dx, _, rfl, by rw [upd_ne (ne_of_none p3 n4)]; exact p3, T.cl, T.nS, by show 3 < 1000; decide, ?_⟩⟩
    obtain ⟨a4, k4⟩ := fld_step (fs' := putF "shared" (.ref l4) (putF "numbers" (.ref l3) (putF "order" (.ref l2) (putF "text" (.ref l1) [])))) p3 n4
    generalize hH4 : upd (upd H3 l4 (.lst [])) p (.ins C dx (putF "shared" (.ref l4) (putF "numbers" (.ref l3) (putF "order" (.ref l2) (putF "text" (.ref l1) []))))) = H4 at a4 k4
    have p4 : H4 p = some (.ins C dx (putF "shared" (.ref l4) (putF "numbers" (.ref l3) (putF "order" (.ref l2) (putF "text" (.ref l1) []))))) := by rw [← hH4]; exact upd_same
    refine ⟨Nat.zero_le _, fun l5 n5 => ⟨_, rfl, p, C, dx, _, rfl, by rw [upd_ne (ne_of_none p4 n5)]; exact p4, T.cl, T.nB, by show 4 < 1000; decide, ?_⟩⟩
    obtain ⟨a5, k5⟩ := fld_step (fs' := putF "best" (.ref l5) (putF "shared" (.ref l4) (putF "numbers" (.ref l3) (putF "order" (.ref l2) (putF "text" (.ref l1) []))))) p4 n5
    generalize hH5 : upd (upd H4 l5 (.lst [])) p (.ins C dx (putF "best" (.ref l5) (putF "shared" (.ref l4) (putF "numbers" (.ref l3) (putF "order" (.ref l2) (putF "text" (.ref l1) [])))))) = H5 at a5 k5
    have p5 : H5 p = some (.ins C dx (putF "best" (.ref l5) (putF "shared" (.ref l4) (putF "numbers" (.ref l3) (putF "order" (.ref l2) (putF "text" (.ref l1) [])))))) := by rw [← hH5]; exact upd_same
    refine ⟨Nat.zero_le _, fun l6 n6 => ⟨_, rfl, p, C, dx, _, rfl, by rw [upd_ne (ne_of_none p5 n6)]; exact p5, T.cl, T.nP, by show 5 < 1000; decide, ?_⟩⟩
    obtain ⟨a6, k6⟩ := fld_step (fs' := hf l1 l2 l3 l4 l5 l6) p5 n6
    have q1 : l1 ≠ p := ne_of a1 p1 (by intro z; cases z)
    have q2 : l2 ≠ p := ne_of a2 p2 (by intro z; cases z)
    have q3 : l3 ≠ p := ne_of a3 p3 (by intro z; cases z)
    have q4 : l4 ≠ p := ne_of a4 p4 (by intro z; cases z)
    have q5 : l5 ≠ p := ne_of a5 p5 (by intro z; cases z)
    refine k _ l1 l2 l3 l4 l5 l6 upd_same (fun x hx => ?_) fun b o e hb => k6 b o (k5 b o (k4 b o (k3 b o (k2 b o (k1 b o e hb) hb) hb) hb) hb) hb
    simp only [List.mem_cons, List.mem_nil_iff, or_false] at hx
    rcases hx with rfl | rfl | rfl | rfl | rfl | rfl
    · exact k6 _ _ (k5 _ _ (k4 _ _ (k3 _ _ (k2 _ _ a1 q1) q1) q1) q1) q1
    · exact k6 _ _ (k5 _ _ (k4 _ _ (k3 _ _ a2 q2) q2) q2) q2
    · exact k6 _ _ (k5 _ _ (k4 _ _ a3 q3) q3) q3
    · exact k6 _ _ (k5 _ _ a4 q4) q4
    · exact k6 _ _ a5 q5
    · exact a6
theorem scHold : FnScope ["self", "n", "text"] ["self", "n", "text"] (defScope sHold) := ⟨rfl, rfl, rfl, by decide +kernel, rfl, by decide +kernel, by decide +kernel⟩
theorem ok_hold {f : Addr} {fd : FuncData} (F : Fun K "hold" "Holder.hold" sHold f fd) (T : TxtH K mg base c Pt C) (C0 : Cal P w K mg base 2 "is_length" ["n"] spIsLen) (C1 : Cal P w K mg base 2 "order_ends" ["text"] (spOrder K Pt)) (C2 : Cal P w K mg base 2 "numbers_in_order" ["order"] (spNumbers K))
    (C3 : Cal P w K mg base 2 "neighbours_share" ["text", "order", "numbers"] (spShare K)) (C4 : Cal P w K mg base 2 "best_runs" ["shared"] (spBest K)) (C5 : Cal P w K mg base 2 "pieces_before" ["order", "shared"] (spBefore K)) :
    FnOk P w K mg base CX0 3 f fd ["self", "n", "text"] (spWrite K C Pt (arHold K)) := by
  obtain ⟨f0, fd0, mg0, kp0, b0, G0⟩ := C0
  obtain ⟨f1, fd1, mg1, kp1, b1, G1⟩ := C1
  obtain ⟨f2, fd2, mg2, kp2, b2, G2⟩ := C2
  obtain ⟨f3, fd3, mg3, kp3, b3, G3⟩ := C3
  obtain ⟨f4, fd4, mg4, kp4, b4, G4⟩ := C4
  obtain ⟨f5, fd5, mg5, kp5, b5, G5⟩ := C5
  obtain ⟨uO, hO, rO⟩ := T.gOR
  refine F.ok scHold (fun vs H Q E h => ?_) (fun cdv A outer s H vs Q E hr h => ?_)
  · obtain ⟨h, q, st, as, cl, zs, rfl, ⟨n, d, x, rfl, _⟩, _⟩ := h
    rfl
  · obtain ⟨h, q, st, as, cl, zs, rfl, ⟨n, dd, x, rfl, hD, rfl, hxl⟩, hA, hq, hT, k⟩ := h
    refine ⟨_, pss_cons (ps_if (pt_not (pt_val (pe_call G0 hr rfl mg0 kp0 b0 .nil pass0 (pa_cons (pv 1) pa_nil)))) (pss_one (ps_ret (pe_lst (pa_cons (pe_glob rfl hO rO) pa_nil)))) pss_nil)
      (pss_cons (ps_fld (pv 0) (pe_callTy call_list_of rfl T.list PyProof.Rows.boot_list (pa_cons (pv 2) pa_nil)) rfl)
      (pss_cons (ps_fld (pv 0) (pe_call G1 hr rfl mg1 kp1 b1 .nil pass0 (pa_cons (pe_fld (pv 0) rfl) pa_nil)) rfl)
      (pss_cons (ps_fld (pv 0) (pe_call G2 hr rfl mg2 kp2 b2 .nil pass0 (pa_cons (pe_fld (pv 0) rfl) pa_nil)) rfl)
      (pss_cons (ps_fld (pv 0) (pe_call G3 hr rfl mg3 kp3 b3 .nil pass0 (pa_cons (pe_fld (pv 0) rfl) (pa_cons (pe_fld (pv 0) rfl) (pa_cons (pe_fld (pv 0) rfl) pa_nil)))) rfl)
      (pss_cons (ps_fld (pv 0) (pe_call G4 hr rfl mg4 kp4 b4 .nil pass0 (pa_cons (pe_fld (pv 0) rfl) pa_nil)) rfl)
      (pss_cons (ps_fld (pv 0) (pe_call G5 hr rfl mg5 kp5 b5 .nil pass0 (pa_cons (pe_fld (pv 0) rfl) (pa_cons (pe_fld (pv 0) rfl) pa_nil))) rfl)
      (pss_one (ps_ret (pe_lst (pa_cons pe_int pa_nil)))))))))), ?_⟩
    have hw : Sw16.worked st (.open_ x n) = if Sw16.within n 1 65536 = true then (some x, Sw16.says 0) else (st, Sw16.says (-2)) := rfl
    rw [hw] at k
    refine ⟨_, rfl, n, rfl, _, rfl, ?_⟩
    cases hin : Sw16.within n 1 65536 with
    | false =>
      rw [hin, if_neg (by decide)] at k
      exact iteT ⟨by show 1 ≤ sizeLine; decide, fun p hp => k p _ (hA.same (same_upd hp)) (tb_same hT (same_upd hp)) (.same (same_upd hp)) hp upd_same⟩
    | true =>
      rw [hin, if_pos rfl] at k
      refine iteF ?_
      obtain ⟨dx, a, b, c, d, e, g, hh, -, -⟩ := hA
      have hxn := hxl hin
      obtain ⟨w1, w2⟩ := within_iff.mp hin
      have hx0 : x ≠ [] := fun z => by rw [z] at hxn; simp at hxn; omega
      have hxl' : x.length ≤ 65536 := by omega
      -- text
      refine ⟨_, rfl, dd, _, rfl, .inl hD, fun l1 n1 => ⟨_, rfl, h, C, dx, _, rfl, by rw [upd_ne (ne_of_none hh n1)]; exact hh, T.cl, T.nT, by show 6 < 1000; decide, ?_⟩⟩
      rw [put_text]
      have S0 : Same H (upd H l1 (.lst (nv x))) := same_upd n1
      have hh0 := S0 _ _ hh
      have F1 : Fw h Pt H (upd (upd H l1 (.lst (nv x))) h (.ins C dx (hf l1 b c d e g))) := Fw.trans (.same S0) .store
      have T1 : Tb Pt (upd (upd H l1 (.lst (nv x))) h (.ins C dx (hf l1 b c d e g))) := tb_store (tb_same hT S0) hh0
      have t1 : (upd (upd H l1 (.lst (nv x))) h (.ins C dx (hf l1 b c d e g))) l1 = some (.lst (nv x)) := lst_store hh0 upd_same
      generalize hH1 : upd (upd H l1 (.lst (nv x))) h (.ins C dx (hf l1 b c d e g)) = H1 at F1 T1 t1
      have h1 : H1 h = some (.ins C dx (hf l1 b c d e g)) := by rw [← hH1]; exact upd_same
      -- order
      refine ⟨_, rfl, h, C, dx, _, _, rfl, h1, T.cl, T.nT, hf_text .., l1, x, rfl, SqL.of t1, hx0, by omega, T1, fun l2 o G1' he g1 n2 e2 => ?_⟩
      have hb1 : G1' h = some (.ins C dx (hf l1 b c d e g)) := g1.1 _ _ h1 (tb_ne T1 h1 fun _ z => by cases z)
      refine ⟨_, rfl, h, C, dx, _, rfl, hb1, T.cl, T.nO, by show 6 < 1000; decide, ?_⟩
      rw [put_order]
      have F2 : Fw h Pt H (upd G1' h (.ins C dx (hf l1 l2 c d e g))) := (F1.trans (.gr g1)).trans .store
      have T2 : Tb Pt (upd G1' h (.ins C dx (hf l1 l2 c d e g))) := tb_store g1.2 hb1
      have t2 : (upd G1' h (.ins C dx (hf l1 l2 c d e g))) l1 = some (.lst (nv x)) := lst_store hb1 (gr_lst T1 g1 t1)
      have o2 : (upd G1' h (.ins C dx (hf l1 l2 c d e g))) l2 = some (.lst (nv o)) := lst_store hb1 e2
      generalize hH2 : upd G1' h (.ins C dx (hf l1 l2 c d e g)) = H2 at F2 T2 t2 o2
      have h2 : H2 h = some (.ins C dx (hf l1 l2 c d e g)) := by rw [← hH2]; exact upd_same
      have hol := TE.ends_length he
      -- numbers
      refine ⟨_, rfl, h, C, dx, _, _, rfl, h2, T.cl, T.nO, hf_order .., l2, o, rfl, SqL.of o2, by rw [hol]; exact he.1, by omega, fun l3 N G2' hN s2 n3 e3 => ?_⟩
      have hb2 := s2 _ _ h2
      refine ⟨_, rfl, h, C, dx, _, rfl, hb2, T.cl, T.nN, by show 6 < 1000; decide, ?_⟩
      rw [put_numbers]
      have F3 : Fw h Pt H (upd G2' h (.ins C dx (hf l1 l2 l3 d e g))) := (F2.trans (.same s2)).trans .store
      have T3 : Tb Pt (upd G2' h (.ins C dx (hf l1 l2 l3 d e g))) := tb_store (tb_same T2 s2) hb2
      have t3 : (upd G2' h (.ins C dx (hf l1 l2 l3 d e g))) l1 = some (.lst (nv x)) := lst_store hb2 (s2 _ _ t2)
      have o3 : (upd G2' h (.ins C dx (hf l1 l2 l3 d e g))) l2 = some (.lst (nv o)) := lst_store hb2 (s2 _ _ o2)
      have u3 : (upd G2' h (.ins C dx (hf l1 l2 l3 d e g))) l3 = some (.lst (nv N)) := lst_store hb2 e3
      have n3' : H l3 = none := F2.none h2 T2 n3
      generalize hH3 : upd G2' h (.ins C dx (hf l1 l2 l3 d e g)) = H3 at F3 T3 t3 o3 u3
      have h3 : H3 h = some (.ins C dx (hf l1 l2 l3 d e g)) := by rw [← hH3]; exact upd_same
      -- shared
      refine ⟨_, rfl, h, C, dx, _, _, rfl, h3, T.cl, T.nT, hf_text .., _, rfl, h, C, dx, _, _, rfl, h3, T.cl, T.nO, hf_order .., _, rfl, h, C, dx, _, _, rfl, h3, T.cl, T.nN, hf_numbers .., l1, l2, l3, x, o, N, rfl, SqL.of t3, SqL.of o3, SqL.of u3, he, hN, by omega, fun l4 G3' s3 n4 e4 => ?_⟩
      have hb3 := s3 _ _ h3
      refine ⟨_, rfl, h, C, dx, _, rfl, hb3, T.cl, T.nS, by show 6 < 1000; decide, ?_⟩
      rw [put_shared]
      have F4 : Fw h Pt H (upd G3' h (.ins C dx (hf l1 l2 l3 l4 e g))) := (F3.trans (.same s3)).trans .store
      have T4 : Tb Pt (upd G3' h (.ins C dx (hf l1 l2 l3 l4 e g))) := tb_store (tb_same T3 s3) hb3
      have t4 : (upd G3' h (.ins C dx (hf l1 l2 l3 l4 e g))) l1 = some (.lst (nv x)) := lst_store hb3 (s3 _ _ t3)
      have o4 : (upd G3' h (.ins C dx (hf l1 l2 l3 l4 e g))) l2 = some (.lst (nv o)) := lst_store hb3 (s3 _ _ o3)
      have u4 : (upd G3' h (.ins C dx (hf l1 l2 l3 l4 e g))) l3 = some (.lst (nv N)) := lst_store hb3 (s3 _ _ u3)
      have v4 : (upd G3' h (.ins C dx (hf l1 l2 l3 l4 e g))) l4 = some (.lst (nv (shs x o))) := lst_store hb3 e4
      have n4' : H l4 = none := F3.none h3 T3 n4
      generalize hH4 : upd G3' h (.ins C dx (hf l1 l2 l3 l4 e g)) = H4 at F4 T4 t4 o4 u4 v4
      have h4 : H4 h = some (.ins C dx (hf l1 l2 l3 l4 e g)) := by rw [← hH4]; exact upd_same
      have hpos : 0 < x.length := List.length_pos_iff.mpr hx0
      -- best
      refine ⟨_, rfl, h, C, dx, _, _, rfl, h4, T.cl, T.nS, hf_shared .., l4, shs x o, rfl, SqL.of v4, by rw [shs_len]; exact hpos, by rw [shs_get hpos]; rfl, by rw [shs_len]; omega, fun l5 G4' ys bs rs s4 n5 e5 hR hbl hruns hbest => ?_⟩
      have hb4 := s4 _ _ h4
      refine ⟨_, rfl, h, C, dx, _, rfl, hb4, T.cl, T.nB, by show 6 < 1000; decide, ?_⟩
      rw [put_best]
      have F5 : Fw h Pt H (upd G4' h (.ins C dx (hf l1 l2 l3 l4 l5 g))) := (F4.trans (.same s4)).trans .store
      have T4' := tb_same T4 s4
      have T5 : Tb Pt (upd G4' h (.ins C dx (hf l1 l2 l3 l4 l5 g))) := tb_store T4' hb4
      have t5 : (upd G4' h (.ins C dx (hf l1 l2 l3 l4 l5 g))) l1 = some (.lst (nv x)) := lst_store hb4 (s4 _ _ t4)
      have o5 : (upd G4' h (.ins C dx (hf l1 l2 l3 l4 l5 g))) l2 = some (.lst (nv o)) := lst_store hb4 (s4 _ _ o4)
      have u5 : (upd G4' h (.ins C dx (hf l1 l2 l3 l4 l5 g))) l3 = some (.lst (nv N)) := lst_store hb4 (s4 _ _ u4)
      have v5 : (upd G4' h (.ins C dx (hf l1 l2 l3 l4 l5 g))) l4 = some (.lst (nv (shs x o))) := lst_store hb4 (s4 _ _ v4)
      have w5 : (upd G4' h (.ins C dx (hf l1 l2 l3 l4 l5 g))) l5 = some (.lst ys) := lst_store hb4 e5
      have r5 : Ls (RunAt K (upd G4' h (.ins C dx (hf l1 l2 l3 l4 l5 g)))) ys bs := hR.mono fun v r ⟨y, e1, e2⟩ => ⟨y, e1, Fw.tup (Pt := Pt) .store hb4 T4' e2⟩
      have n5' : H l5 = none := F4.none h4 T4 n5
      generalize hH5 : upd G4' h (.ins C dx (hf l1 l2 l3 l4 l5 g)) = H5 at F5 T5 t5 o5 u5 v5 w5 r5
      have h5 : H5 h = some (.ins C dx (hf l1 l2 l3 l4 l5 g)) := by rw [← hH5]; exact upd_same
      -- before
      refine ⟨_, rfl, h, C, dx, _, _, rfl, h5, T.cl, T.nO, hf_order .., _, rfl, h, C, dx, _, _, rfl, h5, T.cl, T.nS, hf_shared .., l2, l4, x, o, rfl, SqL.of o5, SqL.of v5, he, by omega, fun l6 G5' s5 n6 e6 => ?_⟩
      have hb5 := s5 _ _ h5
      refine ⟨_, rfl, h, C, dx, _, rfl, hb5, T.cl, T.nP, by show 6 < 1000; decide, ?_⟩
      rw [put_before]
      have T5' := tb_same T5 s5
      have F6 : Fw h Pt H (upd G5' h (.ins C dx (hf l1 l2 l3 l4 l5 l6))) := (F5.trans (.same s5)).trans .store
      have T6 : Tb Pt (upd G5' h (.ins C dx (hf l1 l2 l3 l4 l5 l6))) := tb_store T5' hb5
      have n6' : H l6 = none := F5.none h5 T5 n6
      have n2' : H l2 = none := F1.none h1 T1 n2
      have P6 : Parts K (upd G5' h (.ins C dx (hf l1 l2 l3 l4 l5 l6))) x l1 l2 l3 l4 l5 l6 o N ys bs rs :=
        ⟨hx0, hxl', he, hN, lst_store hb5 (s5 _ _ t5), lst_store hb5 (s5 _ _ o5), lst_store hb5 (s5 _ _ u5), lst_store hb5 (s5 _ _ v5), lst_store hb5 (s5 _ _ w5),
          r5.mono fun v r ⟨y, e1, e2⟩ => ⟨y, e1, Fw.tup (Pt := Pt) .store hb5 T5' (sqT_same s5 e2)⟩, by rw [hbl, shs_len], by rw [shs_len] at hruns; exact hruns, hbest, lst_store hb5 e6⟩
      generalize hH6 : upd G5' h (.ins C dx (hf l1 l2 l3 l4 l5 l6)) = H6 at F6 T6 P6
      have h6 : H6 h = some (.ins C dx (hf l1 l2 l3 l4 l5 l6)) := by rw [← hH6]; exact upd_same
      refine ⟨by show 1 ≤ sizeLine; decide, fun p hp => ?_⟩
      have A6 : HoldAt K C H6 h q (some x) := ⟨dx, l1, l2, l3, l4, l5, l6, h6, ⟨(ne_of_none hq n1).symm, (ne_of_none hq n2').symm, (ne_of_none hq n3').symm, (ne_of_none hq n4').symm, (ne_of_none hq n5').symm, (ne_of_none hq n6').symm⟩, o, N, ys, bs, rs, P6⟩
      exact k p _ (A6.same (same_upd hp)) (tb_same T6 (same_upd hp)) (F6.trans (.same (same_upd hp))) (F6.none h6 T6 hp) upd_same
theorem scBackM : FnScope ["self", "n", "first", "turned", "text"] ["self", "n", "first", "turned"] (defScope sBackM) := ⟨rfl, rfl, rfl, by decide +kernel, rfl, by decide +kernel, by decide +kernel⟩
theorem ok_backM {f : Addr} {fd : FuncData} (F : Fun K "back" "Holder.back" sBackM f fd) (T : TxtH K mg base c Pt C) (C0 : Cal P w K mg base 2 "is_length" ["n"] spIsLen) (C1 : Cal P w K mg base 2 "text_back" ["turned", "first"] (spBack K Pt)) :
    FnOk P w K mg base CX0 3 f fd ["self", "n", "first", "turned"] (spWrite K C Pt (arBack K)) := by
  obtain ⟨f0, fd0, mg0, kp0, b0, G0⟩ := C0
  obtain ⟨f1, fd1, mg1, kp1, b1, G1⟩ := C1
  obtain ⟨uO, hO, rO⟩ := T.gOR
  obtain ⟨uN, hN, rN⟩ := T.gNS
  refine F.ok scBackM (fun vs H Q E h => ?_) (fun cdv A outer s H vs Q E hr h => ?_)
  · obtain ⟨h, q, st, as, cl, zs, rfl, ⟨n, f, d, x, rfl, _⟩, _⟩ := h
    rfl
  · obtain ⟨h, q, st, as, cl, zs, rfl, ⟨n, ff, dd, x, rfl, hD, rfl, hxl⟩, hA, hq, hT, k⟩ := h
    refine ⟨_, pss_cons (ps_if (PW.pt (pw_or (pt_not (pt_val (pe_call G0 hr rfl mg0 kp0 b0 .nil pass0 (pa_cons (pv 1) pa_nil)))) (pw_or (pt_cmpR op_lt (pv 2) pe_int (nomark _)) (pw_or1 (pt_cmpR op_ge (pv 2) (pv 1) (nomark _)))))) (pss_one (ps_ret (pe_lst (pa_cons (pe_glob rfl hO rO) pa_nil)))) pss_nil)
      (pss_cons (ps_fld (pv 0) (pe_lst pa_nil) rfl)
      (pss_cons (ps_set (i := 4) scBackM.nd rfl (Or.inl rfl) (pe_call G1 hr rfl mg1 kp1 b1 .nil pass0 (pa_cons (pv 3) (pa_cons (pv 2) pa_nil))))
      (pss_cons (ps_if (pt_cmpR op_lt (pe_callB call_len_seq rfl T.len PySem.boot_len (pa_cons (pv 4) pa_nil)) (pv 1) (nomark _)) (pss_one (ps_ret (pe_lst (pa_cons (pe_glob rfl hN rN) pa_nil)))) pss_nil)
      (pss_one (ps_ret (pe_op op_cat (pe_lst (pa_cons pe_int pa_nil)) (pv 4))))))), ?_⟩
    have hw : Sw16.worked st (.back x n ff) = if (Sw16.within n 1 65536 && Sw16.within ff 0 (n - 1)) = false then (st, Sw16.says (-2)) else match Sw16.backOf x ff.toNat with | some s => (none, ⟨0, [], s⟩) | none => (none, Sw16.says (-1)) := rfl
    rw [hw] at k
    have out : (Sw16.within n 1 65536 && Sw16.within ff 0 (n - 1)) = false → ∀ p, H p = none → Q (.ref p) (upd H p (.lst [V.int (-2)])) := fun hin p hp => by
      rw [hin, if_pos rfl] at k
      exact k p _ (hA.same (same_upd hp)) (tb_same hT (same_upd hp)) (.same (same_upd hp)) hp upd_same
    refine ⟨_, rfl, n, rfl, _, rfl, ?_⟩
    cases hin : Sw16.within n 1 65536 with
    | false => exact iteT (iteT ⟨by show 1 ≤ sizeLine; decide, out (by rw [hin]; rfl)⟩)
    | true =>
      refine iteF ?_
      refine ⟨_, rfl, _, _, rfl, rfl, _, rfl, ?_⟩
      refine ite2 (fun hc => ?_) (fun hc => ?_)
      · have hc : ff < 0 := of_decide_eq_true hc
        exact iteT ⟨by show 1 ≤ sizeLine; decide, out (by rw [hin]; unfold Sw16.within; rw [decide_eq_false (by omega)]; rfl)⟩
      · have hc : ¬ ff < 0 := fun z => hc (decide_eq_true z)
        refine ⟨_, rfl, _, rfl, _, _, rfl, rfl, _, rfl, ?_⟩
        refine ite2 (fun hd => ?_) (fun hd => ?_)
        · have hd : n ≤ ff := of_decide_eq_true hd
          exact ⟨by show 1 ≤ sizeLine; decide, out (by rw [hin]; unfold Sw16.within; rw [decide_eq_true (show (0 : Int) ≤ ff by omega), decide_eq_false (by omega)]; rfl)⟩
        · have hd : ¬ n ≤ ff := fun z => hd (decide_eq_true z)
          have hif : (Sw16.within n 1 65536 && Sw16.within ff 0 (n - 1)) = true := by rw [hin, within_iff.mpr ⟨by omega, by omega⟩]; rfl
          rw [hif, if_neg (by decide)] at k
          have hxn := hxl hif
          obtain ⟨w1, w2⟩ := within_iff.mp hin
          obtain ⟨f0, rfl⟩ : ∃ f0 : Nat, ff = (f0 : Int) := ⟨ff.toNat, by omega⟩
          rw [Int.toNat_natCast] at k
          obtain ⟨dx, a, b, c, d, e, g, hh, ⟨-, m2, m3, m4, m5, m6⟩, -⟩ := hA
          -- self.text = []
          refine ⟨Nat.zero_le _, fun l1 n1 => ⟨_, rfl, h, C, dx, _, rfl, by rw [upd_ne (ne_of_none hh n1)]; exact hh, T.cl, T.nT, by show 6 < 1000; decide, ?_⟩⟩
          rw [put_text]
          have S0 : Same H (upd H l1 (.lst [])) := same_upd n1
          have hh0 := S0 _ _ hh
          have F1 : Fw h Pt H (upd (upd H l1 (.lst [])) h (.ins C dx (hf l1 b c d e g))) := Fw.trans (.same S0) .store
          have T1 : Tb Pt (upd (upd H l1 (.lst [])) h (.ins C dx (hf l1 b c d e g))) := tb_store (tb_same hT S0) hh0
          have t1 : (upd (upd H l1 (.lst [])) h (.ins C dx (hf l1 b c d e g))) l1 = some (.lst []) := lst_store hh0 upd_same
          generalize hH1 : upd (upd H l1 (.lst [])) h (.ins C dx (hf l1 b c d e g)) = H1 at F1 T1 t1
          have h1 : H1 h = some (.ins C dx (hf l1 b c d e g)) := by rw [← hH1]; exact upd_same
          -- text_back
          refine ⟨_, rfl, _, rfl, dd, x, f0, rfl, F1.seq hh hT hD, by omega, by omega, T1, fun tb r H2 g2 n2 e2 hres => ?_⟩
          have h2 : H2 h = some (.ins C dx (hf l1 b c d e g)) := g2.1 _ _ h1 (tb_ne T1 h1 fun _ z => by cases z)
          have F2 : Fw h Pt H H2 := F1.trans (.gr g2)
          have A2 : HoldAt K C H2 h q none := ⟨dx, l1, b, c, d, e, g, h2, ⟨(ne_of_none hq n1).symm, m2, m3, m4, m5, m6⟩, gr_lst T1 g2 t1⟩
          refine ⟨_, rfl, tb, _, rfl, .inl (SqL.of e2), _, rfl, _, _, rfl, rfl, _, rfl, ?_⟩
          rw [nv_len]
          rcases hres with ⟨r1, r2⟩ | ⟨r1, r2⟩
          · rw [r2] at k
            rw [decide_eq_false (by omega)]
            refine iteF ?_
            refine ⟨by show 1 ≤ sizeLine; decide, fun l3 n3 => ?_⟩
            have S3 : Same H2 (upd H2 l3 (.lst [V.int 0])) := same_upd n3
            refine ⟨_, rfl, l3, tb, _, _, rfl, rfl, upd_same, S3 _ _ e2, by rw [nv_len, sizeLine_eq]; simp; omega, fun p hp => ?_⟩
            have S4 := S3.trans (same_upd (o := .lst ([V.int 0] ++ nv r)) hp)
            refine k p _ (A2.same S4) (tb_same g2.2 S4) (F2.trans (.same S4)) (F2.none h2 g2.2 (S3.free hp)) ?_
            rw [upd_same, nv_ints]
            rfl
          · rw [r2] at k
            rw [decide_eq_true (by omega)]
            refine iteT ⟨by show 1 ≤ sizeLine; decide, fun p hp => ?_⟩
            exact k p _ (A2.same (same_upd hp)) (tb_same g2.2 (same_upd hp)) (F2.trans (.same (same_upd hp))) (F2.none h2 g2.2 hp) upd_same
end
end W
end

section
set_option Elab.async false
set_option linter.all false
set_option maxRecDepth 100000
set_option maxHeartbeats 4000000
namespace W
open PySem PySem.Spec PyProof.Rows L2
/-! ### ends.py -/
abbrev sSize : Stmt := top 40
abbrev sAnswer : Stmt := top 41
abbrev sAnswers : Stmt := top 42
theorem yesE {i j : Int} {A B : Prop} (e : i = j) (h : A) : if decide (V.int i = V.int j) = true then A else B := by
  rw [if_pos (by rw [e]; simp)]; exact h
theorem noE {i j : Int} {A B : Prop} (e : i ≠ j) (h : B) : if decide (V.int i = V.int j) = true then A else B := by
  rw [if_neg (by rw [dec_eq]; simpa using e)]; exact h
theorem cut_gen {xs : List V} {p l : Nat} : cutV xs (some ((p : Nat) : Int)) (some (((p + l : Nat)) : Int)) = (xs.drop p).take l := by
  unfold cutV
  rw [HT.sIx_nat, HT.sIx_nat]
  by_cases h : p ≤ xs.length
  · rw [Nat.min_eq_left h]
    by_cases h2 : p + l ≤ xs.length
    · rw [Nat.min_eq_left h2, show p + l - p = l by omega]
    · rw [Nat.min_eq_right (by omega), List.take_of_length_le (by rw [List.length_drop]; omega), List.take_of_length_le (by rw [List.length_drop]; omega)]
  · rw [Nat.min_eq_right (show xs.length ≤ p by omega), List.drop_eq_nil_of_le (Nat.le_refl _), List.drop_eq_nil_of_le (by omega), List.take_nil, List.take_nil]
theorem cut_from {xs : List V} {p : Nat} (h : p ≤ xs.length) : cutV xs (some ((p : Nat) : Int)) none = xs.drop p := by
  unfold cutV
  rw [HT.sIx_nat, HT.sIx_none, Nat.min_eq_left h, List.take_of_length_le (by rw [List.length_drop]; omega)]
theorem at_drop {ns : List Int} {i j : Nat} {z : Int} {v : Int} (e : z = ((i + j : Nat) : Int)) (h : (ns.drop i)[j]? = some v) : atI (ns.map V.int) z = some (V.int v) := by
  refine at_of e ?_
  rw [List.getElem?_map]
  rw [List.getElem?_drop] at h
  rw [h]; rfl
/-- the calls' numbers -/
structure Nums (mg : Str → Option Value) : Prop where
  g1 : GInt mg "HOLD" 1
  g2 : GInt mg "AT" 2
  g3 : GInt mg "FIND" 3
  g4 : GInt mg "COMMON" 4
  g5 : GInt mg "TWICE" 5
  g6 : GInt mg "PIECES" 6
  g7 : GInt mg "PIECE" 7
  g8 : GInt mg "TURN" 8
  g9 : GInt mg "BACK" 9
def spSize (K : PySem.W.Frag) : Sp := fun vs H Q _ => ∃ (a : Addr) (ns t : List Int) (i : Nat) (c : TE.Call), vs = [.ref a, .int i] ∧ SqL K H a (ns.map V.int) ∧ TE.Good c ∧ ns.drop i = TE.flat c ++ t ∧ Q (.int ((TE.flat c).length : Nat)) H
def spAnswer (K : PySem.W.Frag) (C Pt : Addr) : Sp := fun vs H Q _ => ∃ (h d q : Addr) (st : Option (List Nat)) (c : TE.Call) (zs : List V), vs = [.ref h, .ref d] ∧ SqL K H d ((TE.flat c).map V.int) ∧ TE.Good c ∧ Sw16Neutral.asked1 c = true ∧ HoldAt K C H h q st ∧ H q = some (.lst zs) ∧ Tb Pt H ∧
  ∀ (p : Addr) (H' : Hp), HoldAt K C H' h q (Sw16Neutral.step st c).1 → Tb Pt H' → Fw h Pt H H' → H p = none → H' p = some (.lst ((Sw16Neutral.step st c).2.map V.int)) → Q (.ref p) H'
section
variable {P : Program} {w : World} {K : PySem.W.Frag} {mg : Str → Option Value} {base : Heap} {c Pt C : Addr}
theorem scSize : FnScope ["calls", "begin", "number"] ["calls", "begin"] (defScope sSize) := ⟨rfl, rfl, rfl, by decide +kernel, rfl, by decide +kernel, by decide +kernel⟩
theorem ok_size {f : Addr} {fd : FuncData} (F : Fun K "call_size" "call_size" sSize f fd) (G : Nums mg) : FnOk P w K mg base CX0 1 f fd ["calls", "begin"] (spSize K) := by
  obtain ⟨⟨u1, h1, r1⟩, ⟨u2, h2, r2⟩, ⟨u3, h3, r3⟩, ⟨u4, h4, r4⟩, ⟨u5, h5, r5⟩, ⟨u6, h6, r6⟩, ⟨u7, h7, r7⟩, ⟨u8, h8, r8⟩, ⟨u9, h9, r9⟩⟩ := G
  refine F.ok scSize (fun vs H Q E h => ?_) (fun cdv A outer s H vs Q E hr h => ?_)
  · obtain ⟨a, ns, t, i, c, rfl, _⟩ := h
    rfl
  · obtain ⟨a, ns, t, i, c, rfl, hA, hg, hd, k⟩ := h
    refine ⟨_, pss_cons (ps_set (i := 2) scSize.nd rfl (Or.inl rfl) (pe_ix ix_list (pv 0) (pv 1) (fun _ _ => rfl)))
      (pss_cons (ps_if (PW.pt (pw_or (pt_cmpR op_eq (pv 2) (pe_glob rfl h1 r1) (nomark _)) (pw_or1 (pt_cmpR op_eq (pv 2) (pe_glob rfl h3 r3) (nomark _))))) (pss_one (ps_ret (pe_op op_add pe_int (pe_ix ix_list (pv 0) (pe_op op_add (pv 1) pe_int) (fun _ _ => rfl))))) pss_nil)
      (pss_cons (ps_if (pt_cmpR op_eq (pv 2) (pe_glob rfl h9 r9) (nomark _)) (pss_one (ps_ret (pe_op op_add pe_int (pe_ix ix_list (pv 0) (pe_op op_add (pv 1) pe_int) (fun _ _ => rfl))))) pss_nil)
      (pss_cons (ps_if (pt_cmpR op_eq (pv 2) (pe_glob rfl h4 r4) (nomark _)) (pss_one (ps_ret pe_int)) pss_nil)
      (pss_cons (ps_if (PW.pt (pw_or (pt_cmpR op_eq (pv 2) (pe_glob rfl h2 r2) (nomark _)) (pw_or (pt_cmpR op_eq (pv 2) (pe_glob rfl h5 r5) (nomark _)) (pw_or1 (pt_cmpR op_eq (pv 2) (pe_glob rfl h7 r7) (nomark _)))))) (pss_one (ps_ret pe_int)) pss_nil)
      (pss_cons (ps_if (PW.pt (pw_or (pt_cmpR op_eq (pv 2) (pe_glob rfl h6 r6) (nomark _)) (pw_or1 (pt_cmpR op_eq (pv 2) (pe_glob rfl h8 r8) (nomark _))))) (pss_one (ps_ret pe_int)) pss_nil)
      (pss_one ps_never)))))), ?_⟩
    cases hg with
    | open_ n x =>
      refine ⟨_, rfl, _, rfl, a, _, _, _, rfl, rfl, hA, at_drop (j := 0) (v := 1) rfl (by rw [hd]; rfl), ?_⟩
      refine ⟨_, rfl, rfl, _, rfl, yesE rfl (iteT ?_)⟩
      refine ⟨_, rfl, _, rfl, _, _, rfl, rfl, a, _, _, _, rfl, rfl, hA, at_drop (j := 2) (v := (x.length : Int)) rfl (by rw [hd]; rfl), _, _, rfl, rfl, ?_⟩
      have e : (3 : Int) + (x.length : Nat) = (((TE.flat [[1, n], x]).length : Nat) : Int) := by simp [TE.flat]; omega
      rw [← e] at k; exact k
    | find n x =>
      refine ⟨_, rfl, _, rfl, a, _, _, _, rfl, rfl, hA, at_drop (j := 0) (v := 3) rfl (by rw [hd]; rfl), ?_⟩
      refine ⟨_, rfl, rfl, _, rfl, noE (by decide) ⟨_, rfl, rfl, _, rfl, yesE rfl ?_⟩⟩
      refine ⟨_, rfl, _, rfl, _, _, rfl, rfl, a, _, _, _, rfl, rfl, hA, at_drop (j := 2) (v := (x.length : Int)) rfl (by rw [hd]; rfl), _, _, rfl, rfl, ?_⟩
      have e : (3 : Int) + (x.length : Nat) = (((TE.flat [[3, n], x]).length : Nat) : Int) := by simp [TE.flat]; omega
      rw [← e] at k; exact k
    | back n f x =>
      refine ⟨_, rfl, _, rfl, a, _, _, _, rfl, rfl, hA, at_drop (j := 0) (v := 9) rfl (by rw [hd]; rfl), ?_⟩
      refine ⟨_, rfl, rfl, _, rfl, noE (by decide) ⟨_, rfl, rfl, _, rfl, noE (by decide) ?_⟩⟩
      refine ⟨_, rfl, rfl, _, rfl, yesE rfl ?_⟩
      refine ⟨_, rfl, _, rfl, _, _, rfl, rfl, a, _, _, _, rfl, rfl, hA, at_drop (j := 3) (v := (x.length : Int)) rfl (by rw [hd]; rfl), _, _, rfl, rfl, ?_⟩
      have e : (4 : Int) + (x.length : Nat) = (((TE.flat [[9, n, f], x]).length : Nat) : Int) := by simp [TE.flat]; omega
      rw [← e] at k; exact k
    | common x y =>
      refine ⟨_, rfl, _, rfl, a, _, _, _, rfl, rfl, hA, at_drop (j := 0) (v := 4) rfl (by rw [hd]; rfl), ?_⟩
      refine ⟨_, rfl, rfl, _, rfl, noE (by decide) ⟨_, rfl, rfl, _, rfl, noE (by decide) ?_⟩⟩
      refine ⟨_, rfl, rfl, _, rfl, noE (by decide) ?_⟩
      exact ⟨_, rfl, rfl, _, rfl, yesE rfl k⟩
    | at_ x =>
      refine ⟨_, rfl, _, rfl, a, _, _, _, rfl, rfl, hA, at_drop (j := 0) (v := 2) rfl (by rw [hd]; rfl), ?_⟩
      refine ⟨_, rfl, rfl, _, rfl, noE (by decide) ⟨_, rfl, rfl, _, rfl, noE (by decide) ?_⟩⟩
      refine ⟨_, rfl, rfl, _, rfl, noE (by decide) ?_⟩
      refine ⟨_, rfl, rfl, _, rfl, noE (by decide) ?_⟩
      exact ⟨_, rfl, rfl, _, rfl, yesE rfl (iteT k)⟩
    | twice x =>
      refine ⟨_, rfl, _, rfl, a, _, _, _, rfl, rfl, hA, at_drop (j := 0) (v := 5) rfl (by rw [hd]; rfl), ?_⟩
      refine ⟨_, rfl, rfl, _, rfl, noE (by decide) ⟨_, rfl, rfl, _, rfl, noE (by decide) ?_⟩⟩
      refine ⟨_, rfl, rfl, _, rfl, noE (by decide) ?_⟩
      refine ⟨_, rfl, rfl, _, rfl, noE (by decide) ?_⟩
      exact ⟨_, rfl, rfl, _, rfl, noE (by decide) ⟨_, rfl, rfl, _, rfl, yesE rfl (iteT k)⟩⟩
    | piece x =>
      refine ⟨_, rfl, _, rfl, a, _, _, _, rfl, rfl, hA, at_drop (j := 0) (v := 7) rfl (by rw [hd]; rfl), ?_⟩
      refine ⟨_, rfl, rfl, _, rfl, noE (by decide) ⟨_, rfl, rfl, _, rfl, noE (by decide) ?_⟩⟩
      refine ⟨_, rfl, rfl, _, rfl, noE (by decide) ?_⟩
      refine ⟨_, rfl, rfl, _, rfl, noE (by decide) ?_⟩
      exact ⟨_, rfl, rfl, _, rfl, noE (by decide) ⟨_, rfl, rfl, _, rfl, noE (by decide) ⟨_, rfl, rfl, _, rfl, yesE rfl k⟩⟩⟩
    | pieces =>
      refine ⟨_, rfl, _, rfl, a, _, _, _, rfl, rfl, hA, at_drop (j := 0) (v := 6) rfl (by rw [hd]; rfl), ?_⟩
      refine ⟨_, rfl, rfl, _, rfl, noE (by decide) ⟨_, rfl, rfl, _, rfl, noE (by decide) ?_⟩⟩
      refine ⟨_, rfl, rfl, _, rfl, noE (by decide) ?_⟩
      refine ⟨_, rfl, rfl, _, rfl, noE (by decide) ?_⟩
      refine ⟨_, rfl, rfl, _, rfl, noE (by decide) ⟨_, rfl, rfl, _, rfl, noE (by decide) ⟨_, rfl, rfl, _, rfl, noE (by decide) ?_⟩⟩⟩
      exact ⟨_, rfl, rfl, _, rfl, yesE rfl (iteT k)⟩
    | turn =>
      refine ⟨_, rfl, _, rfl, a, _, _, _, rfl, rfl, hA, at_drop (j := 0) (v := 8) rfl (by rw [hd]; rfl), ?_⟩
      refine ⟨_, rfl, rfl, _, rfl, noE (by decide) ⟨_, rfl, rfl, _, rfl, noE (by decide) ?_⟩⟩
      refine ⟨_, rfl, rfl, _, rfl, noE (by decide) ?_⟩
      refine ⟨_, rfl, rfl, _, rfl, noE (by decide) ?_⟩
      refine ⟨_, rfl, rfl, _, rfl, noE (by decide) ⟨_, rfl, rfl, _, rfl, noE (by decide) ⟨_, rfl, rfl, _, rfl, noE (by decide) ?_⟩⟩⟩
      exact ⟨_, rfl, rfl, _, rfl, noE (by decide) ⟨_, rfl, rfl, _, rfl, yesE rfl k⟩⟩
end
end W
end

section
set_option Elab.async false
set_option linter.all false
set_option maxRecDepth 100000
set_option maxHeartbeats 4000000
namespace W
open PySem PySem.Spec PyProof.Rows L2
section
variable {P : Program} {w : World} {K : PySem.W.Frag} {mg : Str → Option Value} {base : Heap} {c Pt C : Addr}
theorem MCal.mono {j k : Nat} {x : Str} {ps : List Str} {sp : Sp} (h : MCal P w K mg base C j x ps sp) (hk : j ≤ k) : MCal P w K mg base C k x ps sp :=
  let ⟨f, fd, a, b, d⟩ := h; ⟨f, fd, a, b, d.mono hk⟩
theorem scAnswer : FnScope ["holder", "call", "number"] ["holder", "call"] (defScope sAnswer) := ⟨rfl, rfl, rfl, by decide +kernel, rfl, by decide +kernel, by decide +kernel⟩
theorem ok_answer {f : Addr} {fd : FuncData} (F : Fun K "answer" "answer" sAnswer f fd) (T : TxtH K mg base c Pt C) (G : Nums mg)
    (M1 : MCal P w K mg base C 3 "hold" ["self", "n", "text"] (spWrite K C Pt (arHold K))) (M2 : MCal P w K mg base C 3 "at" ["self", "k"] (spRead K C arAt)) (M3 : MCal P w K mg base C 3 "find" ["self", "length", "what"] (spRead K C (arFind K)))
    (M4 : MCal P w K mg base C 3 "common" ["self", "i", "j"] (spRead K C arCommon)) (M5 : MCal P w K mg base C 3 "twice" ["self", "times"] (spRead K C arTwice)) (M6 : MCal P w K mg base C 3 "pieces" ["self"] (spRead K C arPieces))
    (M7 : MCal P w K mg base C 3 "piece" ["self", "k"] (spRead K C arPiece)) (M8 : MCal P w K mg base C 3 "turn" ["self"] (spRead K C arTurn)) (M9 : MCal P w K mg base C 3 "back" ["self", "n", "first", "turned"] (spWrite K C Pt (arBack K))) :
    FnOk P w K mg base CX0 4 f fd ["holder", "call"] (spAnswer K C Pt) := by
  obtain ⟨⟨u1, h1, r1⟩, ⟨u2, h2, r2⟩, ⟨u3, h3, r3⟩, ⟨u4, h4, r4⟩, ⟨u5, h5, r5⟩, ⟨u6, h6, r6⟩, ⟨u7, h7, r7⟩, ⟨u8, h8, r8⟩, ⟨u9, h9, r9⟩⟩ := G
  obtain ⟨f1, fd1, m1, b1, G1⟩ := M1
  obtain ⟨f2, fd2, m2, b2, G2⟩ := M2
  obtain ⟨f3, fd3, m3, b3, G3⟩ := M3
  obtain ⟨f4, fd4, m4, b4, G4⟩ := M4
  obtain ⟨f5, fd5, m5, b5, G5⟩ := M5
  obtain ⟨f6, fd6, m6, b6, G6⟩ := M6
  obtain ⟨f7, fd7, m7, b7, G7⟩ := M7
  obtain ⟨f8, fd8, m8, b8, G8⟩ := M8
  obtain ⟨f9, fd9, m9, b9, G9⟩ := M9
  refine F.ok scAnswer (fun vs H Q E h => ?_) (fun cdv A outer s H vs Q E hr h => ?_)
  · obtain ⟨h, d, q, st, c, zs, rfl, _⟩ := h
    rfl
  · obtain ⟨h, d, q, st, c, zs, rfl, hD, hg, hask, hA, hq, hT, k⟩ := h
    refine ⟨_, pss_cons (ps_set (i := 2) scAnswer.nd rfl (Or.inl rfl) (pe_ix ix_list (pv 1) pe_int (fun _ _ => rfl)))
      (pss_cons (ps_if (pt_cmpR op_eq (pv 2) (pe_glob rfl h1 r1) (nomark _)) (pss_one (ps_ret (pe_meth (pv 0) T.cl m1 G1 hr b1 .nil pass0 (pa_cons (pe_ix ix_list (pv 1) pe_int (fun _ _ => rfl)) (pa_cons (pe_slice sl_list (pv 1) (po_some pe_int) po_none) pa_nil))))) pss_nil)
      (pss_cons (ps_if (pt_cmpR op_eq (pv 2) (pe_glob rfl h2 r2) (nomark _)) (pss_one (ps_ret (pe_meth (pv 0) T.cl m2 G2 hr b2 .nil pass0 (pa_cons (pe_ix ix_list (pv 1) pe_int (fun _ _ => rfl)) pa_nil)))) pss_nil)
      (pss_cons (ps_if (pt_cmpR op_eq (pv 2) (pe_glob rfl h3 r3) (nomark _)) (pss_one (ps_ret (pe_meth (pv 0) T.cl m3 G3 hr b3 .nil pass0 (pa_cons (pe_ix ix_list (pv 1) pe_int (fun _ _ => rfl)) (pa_cons (pe_slice sl_list (pv 1) (po_some pe_int) po_none) pa_nil))))) pss_nil)
      (pss_cons (ps_if (pt_cmpR op_eq (pv 2) (pe_glob rfl h4 r4) (nomark _)) (pss_one (ps_ret (pe_meth (pv 0) T.cl m4 G4 hr b4 .nil pass0 (pa_cons (pe_ix ix_list (pv 1) pe_int (fun _ _ => rfl)) (pa_cons (pe_ix ix_list (pv 1) pe_int (fun _ _ => rfl)) pa_nil))))) pss_nil)
      (pss_cons (ps_if (pt_cmpR op_eq (pv 2) (pe_glob rfl h5 r5) (nomark _)) (pss_one (ps_ret (pe_meth (pv 0) T.cl m5 G5 hr b5 .nil pass0 (pa_cons (pe_ix ix_list (pv 1) pe_int (fun _ _ => rfl)) pa_nil)))) pss_nil)
      (pss_cons (ps_if (pt_cmpR op_eq (pv 2) (pe_glob rfl h6 r6) (nomark _)) (pss_one (ps_ret (pe_meth0 (pv 0) T.cl m6 G6 hr b6 .nil pass0))) pss_nil)
      (pss_cons (ps_if (pt_cmpR op_eq (pv 2) (pe_glob rfl h7 r7) (nomark _)) (pss_one (ps_ret (pe_meth (pv 0) T.cl m7 G7 hr b7 .nil pass0 (pa_cons (pe_ix ix_list (pv 1) pe_int (fun _ _ => rfl)) pa_nil)))) pss_nil)
      (pss_cons (ps_if (pt_cmpR op_eq (pv 2) (pe_glob rfl h8 r8) (nomark _)) (pss_one (ps_ret (pe_meth0 (pv 0) T.cl m8 G8 hr b8 .nil pass0))) pss_nil)
      (pss_one (ps_ret (pe_meth (pv 0) T.cl m9 G9 hr b9 .nil pass0 (pa_cons (pe_ix ix_list (pv 1) pe_int (fun _ _ => rfl)) (pa_cons (pe_ix ix_list (pv 1) pe_int (fun _ _ => rfl)) (pa_cons (pe_slice sl_list (pv 1) (po_some pe_int) po_none) pa_nil)))))))))))))), ?_⟩
    have hA0 := hA
    obtain ⟨dx, a', b', c', d', e', g', hh, -⟩ := hA0
    -- what a call that only reads leaves
    have rd : ∀ (cl : Sw16.Call), Sw16Neutral.step st c = ((Sw16.worked st cl).1, tl (Sw16.worked st cl).2) → (Sw16.worked st cl).1 = st → ∀ H1, Same H H1 → ∀ (p : Addr) (H' : Hp), Same H1 H' → H1 p = none → H' p = some (.lst ((tl (Sw16.worked st cl).2).map V.int)) → Q (.ref p) H' := fun cl e1 e2 H1 S1 p H' S hp ep =>
      k p H' (by rw [e1]; show HoldAt K C H' h q (Sw16.worked st cl).1; rw [e2]; exact hA.same (S1.trans S)) (tb_same hT (S1.trans S)) (.same (S1.trans S)) (S1.free hp) (by rw [e1]; exact ep)
    cases hg with
    | open_ n x =>
      have hask' : (Sw16Neutral.whole32 n && (x.all (fun (z : Int) => Sw16Neutral.natural z 8) && Sw16Neutral.long x n 1 65536)) = true := hask
      rw [Bool.and_eq_true, Bool.and_eq_true] at hask'
      have hx := TE.nats_back hask'.2.1
      have hxl := of_decide_eq_true hask'.2.2
      have hcut : cutV ((TE.flat [[1, n], x]).map V.int) (some ((3 : Nat) : Int)) none = nv (Sw16Neutral.nats x) := by
        rw [cut_from (by simp [TE.flat]), nv_ints, ← hx]; rfl
      refine ⟨_, rfl, d, _, _, _, rfl, rfl, hD, at_of (j := 0) (v := V.int 1) rfl rfl, ?_⟩
      refine ⟨_, rfl, rfl, _, rfl, yesE rfl ?_⟩
      refine ⟨_, rfl, h, dx, _, rfl, hh, rfl, _, rfl, d, _, _, _, rfl, rfl, hD, at_of (j := 1) (v := V.int n) rfl rfl, _, rfl, _, rfl, d, _, rfl, hD, fun l hl => ?_⟩
      have S1 : Same H (upd H l (.lst (cutV ((TE.flat [[1, n], x]).map V.int) (some ((3 : Nat) : Int)) none))) := same_upd hl
      refine ⟨h, q, st, _, .open_ (Sw16Neutral.nats x) n, zs, rfl, ⟨n, l, Sw16Neutral.nats x, rfl, SqL.of (by rw [← hcut]; exact upd_same), rfl, fun hw => ?_⟩, hA.same S1, S1 _ _ hq, tb_same hT S1, fun p H' p1 p2 p3 p4 p5 => ?_⟩
      · rw [TE.nats_len, hxl, if_pos (within_iff.mp hw)]
      · exact k p H' p1 p2 (Fw.trans (.same S1) p3) (S1.free p4) p5
    | at_ i =>
      refine ⟨_, rfl, d, _, _, _, rfl, rfl, hD, at_of (j := 0) (v := V.int 2) rfl rfl, ?_⟩
      refine ⟨_, rfl, rfl, _, rfl, noE (by decide) ⟨_, rfl, rfl, _, rfl, yesE rfl ?_⟩⟩
      refine ⟨_, rfl, h, dx, _, rfl, hh, rfl, _, rfl, d, _, _, _, rfl, rfl, hD, at_of (j := 1) (v := V.int i) rfl rfl, ?_⟩
      exact ⟨h, q, st, _, .at_ i, rfl, ⟨i, rfl, rfl⟩, hA, rd (.at_ i) rfl (by cases st <;> rfl) H (same_refl H)⟩
    | find n x =>
      have hask' : (Sw16Neutral.whole32 n && (x.all (fun (z : Int) => Sw16Neutral.natural z 8) && Sw16Neutral.long x n 1 65536)) = true := hask
      rw [Bool.and_eq_true, Bool.and_eq_true] at hask'
      have hx := TE.nats_back hask'.2.1
      have hcut : cutV ((TE.flat [[3, n], x]).map V.int) (some ((3 : Nat) : Int)) none = nv (Sw16Neutral.nats x) := by
        rw [cut_from (by simp [TE.flat]), nv_ints, ← hx]; rfl
      refine ⟨_, rfl, d, _, _, _, rfl, rfl, hD, at_of (j := 0) (v := V.int 3) rfl rfl, ?_⟩
      refine ⟨_, rfl, rfl, _, rfl, noE (by decide) ⟨_, rfl, rfl, _, rfl, noE (by decide) ⟨_, rfl, rfl, _, rfl, yesE rfl ?_⟩⟩⟩
      refine ⟨_, rfl, h, dx, _, rfl, hh, rfl, _, rfl, d, _, _, _, rfl, rfl, hD, at_of (j := 1) (v := V.int n) rfl rfl, _, rfl, _, rfl, d, _, rfl, hD, fun l hl => ?_⟩
      have S1 : Same H (upd H l (.lst (cutV ((TE.flat [[3, n], x]).map V.int) (some ((3 : Nat) : Int)) none))) := same_upd hl
      exact ⟨h, q, st, _, .find (Sw16Neutral.nats x) n, rfl, ⟨n, l, Sw16Neutral.nats x, rfl, SqL.of (by rw [← hcut]; exact upd_same), rfl⟩, hA.same S1, rd (.find (Sw16Neutral.nats x) n) rfl (by cases st <;> rfl) _ S1⟩
    | common i j =>
      refine ⟨_, rfl, d, _, _, _, rfl, rfl, hD, at_of (j := 0) (v := V.int 4) rfl rfl, ?_⟩
      refine ⟨_, rfl, rfl, _, rfl, noE (by decide) ⟨_, rfl, rfl, _, rfl, noE (by decide) ⟨_, rfl, rfl, _, rfl, noE (by decide) ⟨_, rfl, rfl, _, rfl, yesE rfl ?_⟩⟩⟩⟩
      refine ⟨_, rfl, h, dx, _, rfl, hh, rfl, _, rfl, d, _, _, _, rfl, rfl, hD, at_of (j := 1) (v := V.int i) rfl rfl, _, rfl, d, _, _, _, rfl, rfl, hD, at_of (j := 2) (v := V.int j) rfl rfl, ?_⟩
      exact ⟨h, q, st, _, .common i j, rfl, ⟨i, j, rfl, rfl⟩, hA, rd (.common i j) rfl (by cases st <;> rfl) H (same_refl H)⟩
    | twice i =>
      refine ⟨_, rfl, d, _, _, _, rfl, rfl, hD, at_of (j := 0) (v := V.int 5) rfl rfl, ?_⟩
      refine ⟨_, rfl, rfl, _, rfl, noE (by decide) ⟨_, rfl, rfl, _, rfl, noE (by decide) ⟨_, rfl, rfl, _, rfl, noE (by decide) ⟨_, rfl, rfl, _, rfl, noE (by decide) ⟨_, rfl, rfl, _, rfl, yesE rfl ?_⟩⟩⟩⟩⟩
      refine ⟨_, rfl, h, dx, _, rfl, hh, rfl, _, rfl, d, _, _, _, rfl, rfl, hD, at_of (j := 1) (v := V.int i) rfl rfl, ?_⟩
      exact ⟨h, q, st, _, .twice i, rfl, ⟨i, rfl, rfl⟩, hA, rd (.twice i) rfl (by cases st <;> rfl) H (same_refl H)⟩
    | pieces =>
      refine ⟨_, rfl, d, _, _, _, rfl, rfl, hD, at_of (j := 0) (v := V.int 6) rfl rfl, ?_⟩
      refine ⟨_, rfl, rfl, _, rfl, noE (by decide) ⟨_, rfl, rfl, _, rfl, noE (by decide) ⟨_, rfl, rfl, _, rfl, noE (by decide) ⟨_, rfl, rfl, _, rfl, noE (by decide) ⟨_, rfl, rfl, _, rfl, noE (by decide) ⟨_, rfl, rfl, _, rfl, yesE rfl ?_⟩⟩⟩⟩⟩⟩
      refine ⟨_, rfl, h, dx, _, rfl, hh, rfl, ?_⟩
      exact ⟨h, q, st, _, .pieces, rfl, ⟨rfl, rfl⟩, hA, rd .pieces rfl (by cases st <;> rfl) H (same_refl H)⟩
    | piece i =>
      have hask' : Sw16Neutral.natural i 64 = true := hask
      unfold Sw16Neutral.natural at hask'
      rw [Bool.and_eq_true] at hask'
      have h0 := of_decide_eq_true hask'.1
      obtain ⟨kn, rfl⟩ : ∃ kn : Nat, i = (kn : Int) := ⟨i.toNat, by omega⟩
      refine ⟨_, rfl, d, _, _, _, rfl, rfl, hD, at_of (j := 0) (v := V.int 7) rfl rfl, ?_⟩
      refine ⟨_, rfl, rfl, _, rfl, noE (by decide) ⟨_, rfl, rfl, _, rfl, noE (by decide) ⟨_, rfl, rfl, _, rfl, noE (by decide) ⟨_, rfl, rfl, _, rfl, noE (by decide) ⟨_, rfl, rfl, _, rfl, noE (by decide) ⟨_, rfl, rfl, _, rfl, noE (by decide) ⟨_, rfl, rfl, _, rfl, yesE rfl ?_⟩⟩⟩⟩⟩⟩⟩
      refine ⟨_, rfl, h, dx, _, rfl, hh, rfl, _, rfl, d, _, _, _, rfl, rfl, hD, at_of (j := 1) (v := V.int kn) rfl rfl, ?_⟩
      exact ⟨h, q, st, _, .piece kn, rfl, ⟨kn, rfl, rfl⟩, hA, rd (.piece kn) rfl (by cases st <;> rfl) H (same_refl H)⟩
    | turn =>
      refine ⟨_, rfl, d, _, _, _, rfl, rfl, hD, at_of (j := 0) (v := V.int 8) rfl rfl, ?_⟩
      refine ⟨_, rfl, rfl, _, rfl, noE (by decide) ⟨_, rfl, rfl, _, rfl, noE (by decide) ⟨_, rfl, rfl, _, rfl, noE (by decide) ⟨_, rfl, rfl, _, rfl, noE (by decide) ⟨_, rfl, rfl, _, rfl, noE (by decide) ⟨_, rfl, rfl, _, rfl, noE (by decide) ⟨_, rfl, rfl, _, rfl, noE (by decide) ⟨_, rfl, rfl, _, rfl, yesE rfl ?_⟩⟩⟩⟩⟩⟩⟩⟩
      refine ⟨_, rfl, h, dx, _, rfl, hh, rfl, ?_⟩
      exact ⟨h, q, st, _, .turn, rfl, ⟨rfl, rfl⟩, hA, rd .turn rfl (by cases st <;> rfl) H (same_refl H)⟩
    | back n f x =>
      have hask' : (Sw16Neutral.whole32 n && (Sw16Neutral.whole32 f && (x.all (fun (z : Int) => Sw16Neutral.natural z 8) && decide ((x.length : Int) = if (1 ≤ n ∧ n ≤ 65536) ∧ (0 ≤ f ∧ f ≤ n - 1) then n else 0)))) = true := hask
      rw [Bool.and_eq_true, Bool.and_eq_true, Bool.and_eq_true] at hask'
      have hx := TE.nats_back hask'.2.2.1
      have hxl := of_decide_eq_true hask'.2.2.2
      have hcut : cutV ((TE.flat [[9, n, f], x]).map V.int) (some ((4 : Nat) : Int)) none = nv (Sw16Neutral.nats x) := by
        rw [cut_from (by simp [TE.flat]), nv_ints, ← hx]; rfl
      refine ⟨_, rfl, d, _, _, _, rfl, rfl, hD, at_of (j := 0) (v := V.int 9) rfl rfl, ?_⟩
      refine ⟨_, rfl, rfl, _, rfl, noE (by decide) ⟨_, rfl, rfl, _, rfl, noE (by decide) ⟨_, rfl, rfl, _, rfl, noE (by decide) ⟨_, rfl, rfl, _, rfl, noE (by decide) ⟨_, rfl, rfl, _, rfl, noE (by decide) ⟨_, rfl, rfl, _, rfl, noE (by decide) ⟨_, rfl, rfl, _, rfl, noE (by decide) ⟨_, rfl, rfl, _, rfl, noE (by decide) ?_⟩⟩⟩⟩⟩⟩⟩⟩
      refine ⟨_, rfl, h, dx, _, rfl, hh, rfl, _, rfl, d, _, _, _, rfl, rfl, hD, at_of (j := 1) (v := V.int n) rfl rfl, _, rfl, d, _, _, _, rfl, rfl, hD, at_of (j := 2) (v := V.int f) rfl rfl, _, rfl, _, rfl, d, _, rfl, hD, fun l hl => ?_⟩
      have S1 : Same H (upd H l (.lst (cutV ((TE.flat [[9, n, f], x]).map V.int) (some ((4 : Nat) : Int)) none))) := same_upd hl
      refine ⟨h, q, st, _, .back (Sw16Neutral.nats x) n f, zs, rfl, ⟨n, f, l, Sw16Neutral.nats x, rfl, SqL.of (by rw [← hcut]; exact upd_same), rfl, fun hw => ?_⟩, hA.same S1, S1 _ _ hq, tb_same hT S1, fun p H' p1 p2 p3 p4 p5 => ?_⟩
      · rw [Bool.and_eq_true] at hw
        rw [TE.nats_len, hxl, if_pos ⟨within_iff.mp hw.1, within_iff.mp hw.2⟩]
      · exact k p H' p1 p2 (Fw.trans (.same S1) p3) (S1.free p4) p5
end
end W
end

section
set_option Elab.async false
set_option linter.all false
set_option maxRecDepth 100000
set_option maxHeartbeats 4000000
namespace W
open PySem PySem.Spec PyProof.Rows L2
theorem tb_off {Pt q : Addr} {H : Hp} {xs ys : List V} (T : Tb Pt H) (hq : H q = some (.lst xs)) : Tb Pt (upd H q (.lst ys)) := by
  rcases T with T | ⟨c, T, Tc⟩
  · exact .inl (by rw [upd_ne (ne_of T hq (by intro z; cases z))]; exact T)
  · exact .inr ⟨c, by rw [upd_ne (ne_of T hq (by intro z; cases z))]; exact T, by rw [upd_ne (ne_of Tc hq (by intro z; cases z))]; exact Tc⟩
def spAnswers (K : PySem.W.Frag) (Pt : Addr) : Sp := fun vs H Q _ => ∃ (a : Addr) (ns : List Int), vs = [.ref a] ∧ SqL K H a (ns.map V.int) ∧ PySw16.answers_asked ns = true ∧ Tb Pt H ∧
  ∀ (H' : Hp) (p : Addr), H' p = some (.lst ((PySw16.answers ns).map V.int)) → Q (.ref p) H'
section
variable {P : Program} {w : World} {K : PySem.W.Frag} {mg : Str → Option Value} {base : Heap} {c Pt C : Addr}
theorem scAnswers : FnScope ["calls", "holder", "told", "begin", "size", "numbers"] ["calls"] (defScope sAnswers) := ⟨rfl, rfl, rfl, by decide +kernel, rfl, by decide +kernel, by decide +kernel⟩
theorem ok_answers {f fI : Addr} {fd fdI : FuncData} (F : Fun K "answers" "answers" sAnswers f fd) (T : TxtH K mg base c Pt C) (mgC : mg "Holder" = some (.ref C)) (M : Mk K C fI) (bI : Binds K fdI ["self"] []) (GI : FnOk P w K mg base CX0 3 fI fdI ["self"] (spInit C))
    (C1 : Cal P w K mg base 4 "call_size" ["calls", "begin"] (spSize K)) (C2 : Cal P w K mg base 4 "answer" ["holder", "call"] (spAnswer K C Pt)) : FnOk P w K mg base CX0 5 f fd ["calls"] (spAnswers K Pt) := by
  obtain ⟨f1, fd1, mg1, kp1, b1, G1⟩ := C1
  obtain ⟨f2, fd2, mg2, kp2, b2, G2⟩ := C2
  refine F.ok scAnswers (fun vs H Q E h => ?_) (fun cdv A outer s H vs Q E hr h => ?_)
  · obtain ⟨a, ns, rfl, _⟩ := h
    rfl
  · obtain ⟨a, ns, rfl, hA, hask, hT, k⟩ := h
    refine ⟨_, pss_cons (ps_set (i := 1) scAnswers.nd rfl (Or.inl rfl) (pe_make0 M GI hr rfl mgC bI .nil pass0))
      (pss_cons (ps_set (i := 2) scAnswers.nd rfl (Or.inl rfl) (pe_lst pa_nil))
      (pss_cons (ps_set (i := 3) scAnswers.nd rfl (Or.inl rfl) pe_int)
      (pss_cons (ps_while PassesOwn.never (pt_cmpR op_lt (pv 3) (pe_callB call_len_seq rfl T.len PySem.boot_len (pa_cons (pv 0) pa_nil)) (nomark _))
        (pss_cons (ps_set (i := 4) scAnswers.nd rfl (Or.inl rfl) (pe_call G1 hr rfl mg1 kp1 b1 .nil pass0 (pa_cons (pv 0) (pa_cons (pv 3) pa_nil))))
        (pss_cons (ps_set (i := 5) scAnswers.nd rfl (Or.inl rfl) (pe_call G2 hr rfl mg2 kp2 b2 .nil pass0 (pa_cons (pv 1) (pa_cons (pe_slice sl_list (pv 0) (po_some (pv 3)) (po_some (pe_op op_add (pv 3) (pv 4)))) pa_nil))))
        (pss_cons (ps_expr (pe_bm PySem.F.plainAttrs_list PySem.F.slot_list_append PySem.F.type_list_append mt_append (pv 2) (pa_cons (pe_callB call_len_seq rfl T.len PySem.boot_len (pa_cons (pv 5) pa_nil)) pa_nil)))
        (pss_cons (ps_expr (pe_bm PySem.F.plainAttrs_list PySem.F.slot_list_extend PySem.F.type_list_extend mt_extend (pv 2) (pa_cons (pv 5) pa_nil)))
        (pss_one (ps_aug (i := 3) scAnswers.nd rfl (Or.inl rfl) (pv 4) ip_add)))))))
      (pss_one (ps_ret (pv 2)))))), ?_⟩
    obtain ⟨cs0, hcs0, hans, has0, hc400, hnum⟩ := TE.asked_is hask
    have hlen : (PySw16.answers ns).length ≤ 1000400 := by rw [hans, TE.told_len]; omega
    -- holder = Holder()
    intro x dx nx ndx nex
    refine ⟨x, dx, rfl, upd_same, fun H1 a1 a2 a3 a4 a5 a6 p1 p2 p3 => ⟨rfl, ?_⟩⟩
    have S1 : Same H H1 := Same.made nx ndx p3
    refine ⟨Nat.zero_le _, fun q hq => ?_⟩
    have S2 : Same H1 (upd H1 q (.lst [])) := same_upd hq
    have hq0 : H q = none := S1.free hq
    have A1 : HoldAt K C (upd H1 q (.lst [])) x q none := ⟨dx, a1, a2, a3, a4, a5, a6, S2 _ _ p1, ⟨ne_of_none (p2 a1 (by simp)) hq, ne_of_none (p2 a2 (by simp)) hq, ne_of_none (p2 a3 (by simp)) hq, ne_of_none (p2 a4 (by simp)) hq, ne_of_none (p2 a5 (by simp)) hq, ne_of_none (p2 a6 (by simp)) hq⟩, S2 _ _ (p2 a1 (by simp))⟩
    refine ⟨fun m σ H' => ∃ (i fu : Nat) (st : Option (List Nat)) (zs : List Int) (cs : List TE.Call) (v4 v5 : Option V), m = ns.length - i ∧ σ = [some (.ref a), some (.ref x), some (.ref q), some (.int i), v4, v5] ∧ Gr Pt H H' ∧ HoldAt K C H' x q st ∧ H' q = some (.lst (zs.map V.int)) ∧
        PyFlat.calls PySw16.shape fu (ns.drop i) = some cs ∧ (∀ c ∈ cs, Sw16Neutral.asked1 c = true) ∧ PySw16.answers ns = zs ++ PyFlat.told (PyFlat.played Sw16Neutral.step st cs),
      ⟨_, 0, ns.length, none, [], cs0, none, none, rfl, rfl, gr_same hT (S1.trans S2), A1, upd_same, hcs0, has0, hans⟩, ?_⟩
    rintro m σ H' ⟨i, fu, st, zs, cs, v4, v5, rfl, rfl, g1, A2, hq', hcs, has, hA'⟩
    have hT' := g1.2
    have sa := gr_seq hT g1 hA
    refine ⟨_, rfl, _, rfl, a, _, rfl, .inl sa, _, _, rfl, rfl, _, rfl, ?_⟩
    rw [List.length_map]
    refine ite2 (fun hc => ?_) (fun hc => ?_)
    · have hc : ((i : Nat) : Int) < (ns.length : Nat) := of_decide_eq_true hc
      obtain ⟨c1, t, cs', fu', rfl, hg, hd, hcs'⟩ := TE.calls_cons (fun z => by have := congrArg List.length z; rw [List.length_drop] at this; simp at this; omega) hcs
      have hpos := TE.flat_pos hg
      have hle : i + (TE.flat c1).length ≤ ns.length := by
        have := congrArg List.length hd
        rw [List.length_drop, List.length_append] at this
        omega
      have hd' : ns.drop (i + (TE.flat c1).length) = t := by rw [← List.drop_drop, hd, List.drop_left]
      refine ⟨fun σ' H'' => ∃ (st : Option (List Nat)) (zs : List Int) (v4 v5 : Option V), σ' = [some (.ref a), some (.ref x), some (.ref q), some (.int ((i + (TE.flat c1).length : Nat))), v4, v5] ∧ Gr Pt H H'' ∧ HoldAt K C H'' x q st ∧ H'' q = some (.lst (zs.map V.int)) ∧
          PySw16.answers ns = zs ++ PyFlat.told (PyFlat.played Sw16Neutral.step st cs'),
        fun σ' H'' ⟨st, zs, v4, v5, b1, b2, b3, b4, b5⟩ => ⟨_, (show ns.length - (i + (TE.flat c1).length) < ns.length - i by omega), i + (TE.flat c1).length, fu', st, zs, cs', v4, v5, rfl, b1, b2, b3, b4, by rw [hd']; exact hcs', fun c hc => has c (List.mem_cons_of_mem _ hc), b5⟩, ?_⟩
      -- size
      refine ⟨_, rfl, _, rfl, a, ns, t, i, c1, rfl, sa, hg, hd, ?_⟩
      -- numbers
      refine ⟨_, rfl, _, rfl, _, rfl, _, rfl, _, rfl, _, rfl, _, _, rfl, rfl, _, rfl, a, _, rfl, sa, fun l hl => ?_⟩
      have hcut : cutV (ns.map V.int) (some ((i : Nat) : Int)) (some (((i : Nat) : Int) + ((TE.flat c1).length : Nat))) = (TE.flat c1).map V.int := by
        rw [show ((i : Nat) : Int) + ((TE.flat c1).length : Nat) = ((i + (TE.flat c1).length : Nat) : Int) by omega, cut_gen, ← List.map_drop, hd, ← List.map_take, List.take_left]
      have S3 : Same H' (upd H' l (.lst (cutV (ns.map V.int) (some ((i : Nat) : Int)) (some (((i : Nat) : Int) + ((TE.flat c1).length : Nat)))))) := same_upd hl
      refine ⟨x, l, q, st, c1, _, rfl, SqL.of (by rw [← hcut]; exact upd_same), hg, has c1 (List.mem_cons_self ..), A2.same S3, S3 _ _ hq', tb_same hT' S3, fun p H2 A3 T3 F3 np ep => ?_⟩
      have hx2 : ∃ dx' fs, H' x = some (.ins C dx' fs) := let ⟨dx', _, _, _, _, _, _, e, _⟩ := A2; ⟨dx', _, e⟩
      obtain ⟨dx', fs', hx2⟩ := hx2
      have hq2 : H2 q = some (.lst (zs.map V.int)) := F3.lst (S3 _ _ hx2) (tb_same hT' S3) (S3 _ _ hq')
      have hpq : p ≠ q := (ne_of_none (S3 _ _ hq') np).symm
      have g2 : Gr Pt H H2 := ⟨fun b u e hb => F3 b u (S3 _ _ (g1.1 b u e hb)) (ne_of_none e nx) hb, T3⟩
      have hA2 := hA'
      rw [TE.told_cons] at hA2
      have hl2 : zs.length + (1 + (Sw16Neutral.step st c1).2.length) ≤ 1000400 := by
        rw [hA2] at hlen
        simp only [List.length_append, List.length_cons] at hlen
        omega
      generalize hans2 : (Sw16Neutral.step st c1).2 = an at ep hA2 hl2
      -- told.append(len(numbers))
      refine ⟨_, rfl, .inl ⟨rfl, _, SqL.of hq2⟩, _, rfl, p, _, rfl, .inl (SqL.of ep), q, _, _, rfl, rfl, hq2, by rw [List.length_map, sizeLine_eq]; omega, ?_⟩
      rw [List.length_map]
      have ep2 : (upd H2 q (.lst (zs.map V.int ++ [V.int (an.length : Nat)]))) p = some (.lst (an.map V.int)) := by rw [upd_ne hpq]; exact ep
      -- told.extend(numbers)
      refine ⟨_, rfl, .inl ⟨rfl, _, SqL.of upd_same⟩, _, rfl, q, p, _, _, rfl, rfl, upd_same, ep2, by rw [List.length_append, List.length_map, List.length_map, sizeLine_eq]; simp; omega, ?_⟩
      -- begin += size
      refine ⟨_, rfl, _, rfl, _, _, rfl, rfl, ?_⟩
      have A4 : HoldAt K C (upd H2 q (.lst (zs.map V.int ++ [V.int (an.length : Nat)]))) x q (Sw16Neutral.step st c1).1 := A3.off hq2
      refine ⟨(Sw16Neutral.step st c1).1, zs ++ ((an.length : Int) :: an), _, _, rfl, ⟨fun b u e hb => ?_, tb_off (tb_off T3 hq2) upd_same⟩, A4.off upd_same, ?_, ?_⟩
      · rw [upd_ne (ne_of_none e hq0), upd_ne (ne_of_none e hq0)]; exact g2.1 b u e hb
      · rw [upd_same]; simp
      · rw [hA2, List.append_assoc]
    · have hc : ¬ ((i : Nat) : Int) < (ns.length : Nat) := fun z => hc (decide_eq_true z)
      have hnil : ns.drop i = [] := List.drop_eq_nil_of_le (by omega)
      rw [hnil] at hcs
      have := TE.calls_nil hcs
      subst this
      refine ⟨_, rfl, k H' q ?_⟩
      rw [hA', hq']
      show _ = some (HO.lst ((zs ++ []).map V.int))
      rw [List.append_nil]
end
end W
end

section
set_option Elab.async false
set_option linter.all false
set_option maxRecDepth 100000
set_option maxHeartbeats 4000000
namespace W
open PySem PySem.Spec PyProof.Rows L2
open PySem.W (Codec)
/-! ### what the top has written -/
theorem len0 {α : Type} {us : List α} (h : us.length = 0) : us = [] := List.length_eq_zero_iff.mp h
theorem lenS {α : Type} {us : List α} {n : Nat} (h : us.length = n + 1) : ∃ a r, us = a :: r ∧ r.length = n := by
  cases us with
  | nil => simp at h
  | cons a r => exact ⟨a, r, rfl, Nat.succ.inj h⟩
theorem len1 {α : Type} {us : List α} (h : us.length = 1) : ∃ a, us = [a] := let ⟨a, r, e, hr⟩ := lenS h; ⟨a, by rw [e, len0 hr]⟩
theorem len2 {α : Type} {us : List α} (h : us.length = 2) : ∃ a b, us = [a, b] := let ⟨a, r, e, hr⟩ := lenS h; let ⟨b, e2⟩ := len1 hr; ⟨a, b, by rw [e, e2]⟩
theorem len3 {α : Type} {us : List α} (h : us.length = 3) : ∃ a b d, us = [a, b, d] := let ⟨a, r, e, hr⟩ := lenS h; let ⟨b, d, e2⟩ := len2 hr; ⟨a, b, d, by rw [e, e2]⟩
theorem len4 {α : Type} {us : List α} (h : us.length = 4) : ∃ a b d f, us = [a, b, d, f] := let ⟨a, r, e, hr⟩ := lenS h; let ⟨b, d, f, e2⟩ := len3 hr; ⟨a, b, d, f, by rw [e, e2]⟩
def DF (K : PySem.W.Frag) (x qual : Str) (st : Stmt) : Prop := ∃ (f : Addr) (fd : FuncData), PySem.W.nsIn K mainGlobals x = some (some (.ref f)) ∧ Fun K x qual st f fd
theorem df_mk {K : PySem.W.Frag} {x qual : Str} {st : Stmt} {f : Addr} {oc : Value} {od an : Option Addr} {osl : Array (Option Value)} {kV doc pm cdv ct : Value} (a : PySem.W.nsIn K mainGlobals x = some (some (.ref f)))
    (l : K.lookup f = some ⟨oc, od, .func (PySem.W.fnOf x qual (defArgs st) (defBody st) (defScope st) .none kV doc pm an cdv ct), osl⟩) (c : PySem.W.codeIn K cdv qual = true) (k : PySem.W.keepIn K (.ref f) = true) : DF K x qual st := ⟨f, _, a, fun_mk l c k⟩
/-- .. and its code stands at c -/
def DFc (K : PySem.W.Frag) (x qual : Str) (st : Stmt) (c : Addr) : Prop := ∃ (f : Addr) (fd : FuncData), PySem.W.nsIn K mainGlobals x = some (some (.ref f)) ∧ Fun K x qual st f fd ∧ fd.code = .ref c
theorem dfc_mk {K : PySem.W.Frag} {x qual : Str} {st : Stmt} {f cc : Addr} {oc : Value} {od an : Option Addr} {osl : Array (Option Value)} {kV doc pm ct : Value} (a : PySem.W.nsIn K mainGlobals x = some (some (.ref f)))
    (l : K.lookup f = some ⟨oc, od, .func (PySem.W.fnOf x qual (defArgs st) (defBody st) (defScope st) .none kV doc pm an (.ref cc) ct), osl⟩) (c : PySem.W.codeIn K (.ref cc) qual = true) (k : PySem.W.keepIn K (.ref f) = true) : DFc K x qual st cc := ⟨f, _, a, fun_mk l c k, rfl⟩
def MF (K : PySem.W.Frag) (C : Addr) (x qual : Str) (st : Stmt) : Prop := ∃ (f : Addr) (fd : FuncData), Meth K C x f ∧ Fun K x qual st f fd
theorem mf_mk {K : PySem.W.Frag} {C : Addr} {x qual : Str} {st : Stmt} {f : Addr} {oc : Value} {od an : Option Addr} {osl : Array (Option Value)} {kV doc pm cdv ct : Value} (a : PySem.W.findIn K (.ref C) x = some (some (.ref f))) (i : PySem.W.isFn K (.ref f) = true)
    (l : K.lookup f = some ⟨oc, od, .func (PySem.W.fnOf x qual (defArgs st) (defBody st) (defScope st) .none kV doc pm an cdv ct), osl⟩) (c : PySem.W.codeIn K cdv qual = true) (k : PySem.W.keepIn K (.ref f) = true) : MF K C x qual st := ⟨f, _, ⟨a, i, k⟩, fun_mk l c k⟩
def GI (K : PySem.W.Frag) (x : Str) (i : Int) : Prop := ∃ t, PySem.W.nsIn K mainGlobals x = some (some (.int i t))
theorem gi_mk {K : PySem.W.Frag} {x : Str} {i : Int} {t : Tok} (a : PySem.W.nsIn K mainGlobals x = some (some (.int i t))) : GI K x i := ⟨t, a⟩
/-- the tuple of three noughts -/
def NRF (K : PySem.W.Frag) : Prop := ∃ (nr : Addr) (od : Option Addr) (t1 t2 t3 : Tok) (n : Nat) (sl : Array (Option Value)), PySem.W.nsIn K mainGlobals "NO_RUN" = some (some (.ref nr)) ∧ K.lookup nr = some ⟨.type "tuple", od, .seq #[.int 0 t1, .int 0 t2, .int 0 t3] n, sl⟩
theorem nrf_mk {K : PySem.W.Frag} {nr : Addr} {od : Option Addr} {t1 t2 t3 : Tok} {n : Nat} {sl : Array (Option Value)} (a : PySem.W.nsIn K mainGlobals "NO_RUN" = some (some (.ref nr))) (l : K.lookup nr = some ⟨.type "tuple", od, .seq #[.int 0 t1, .int 0 t2, .int 0 t3] n, sl⟩) : NRF K := ⟨nr, od, t1, t2, t3, n, sl, a, l⟩
theorem tab_mk {K : PySem.W.Frag} {x : Str} {f cc Pt : Addr} {oc oc2 : Value} {od od2 : Option Addr} {sl sl2 : Array (Option Value)} {fd : FuncData} {vs : Array Value} (a : PySem.W.nsIn K mainGlobals x = some (some (.ref f))) (l : K.lookup f = some ⟨oc, od, .func fd, sl⟩) (z : fd.code = .ref cc)
    (lc : K.lookup cc = some ⟨oc2, od2, .fields vs, sl2⟩) (z2 : (vs[11]? : Option Value) = some (.ref Pt)) : PySem.W.tabIn K x = some (cc, Pt) := by
  unfold PySem.W.tabIn
  rw [a]
  simp only [l, z, lc, z2]
theorem all_ok {P : Program} {w : World} {K : PySem.W.Frag} {h : Heap} {mg : Str → Option Value} {fa c Pt C : Addr} (X : K.In h) (G : h.Ns mainGlobals mg) (hfa : mg "answers" = some (.ref fa)) (hcode : PySem.W.codeHdIn K c Pt = true) 
    (c_at : PySem.W.nsIn K mainGlobals "Holder" = some (some (.ref C))) (c_pg : PySem.W.plainGet K C Str.empty = true) (c_hd : PySem.W.hasDictIn K C = true) (c_po : PySem.W.plainOver K C = true) (c_sa : PySem.W.findIn K (.ref C) "__setattr__" = some (some (.builtin "object.__setattr__"))) (c_mks : PySem.W.makesIn K C = true) (c_kc : PySem.W.keepIn K (.ref C) = true)
    (c_ntext : PySem.W.findIn K (.ref C) "text" = some none)
    (c_norder : PySem.W.findIn K (.ref C) "order" = some none)
    (c_nnumbers : PySem.W.findIn K (.ref C) "numbers" = some none)
    (c_nshared : PySem.W.findIn K (.ref C) "shared" = some none)
    (c_nbest : PySem.W.findIn K (.ref C) "best" = some none)
    (c_nbefore : PySem.W.findIn K (.ref C) "before" = some none)
    (nr : NRF K)
    (b_sorted : PySem.W.nsIn K mainGlobals "sorted" = some none)
    (b_range : PySem.W.nsIn K mainGlobals "range" = some none)
    (b_len : PySem.W.nsIn K mainGlobals "len" = some none)
    (b_max : PySem.W.nsIn K mainGlobals "max" = some none)
    (b_min : PySem.W.nsIn K mainGlobals "min" = some none)
    (b_list : PySem.W.nsIn K mainGlobals "list" = some none)
    (g_NO_BYTE : GI K "NO_BYTE" (-1))
    (g_NONE_SUCH : GI K "NONE_SUCH" (-1))
    (g_OUT_OF_RANGE : GI K "OUT_OF_RANGE" (-2))
    (g_NO_TEXT : GI K "NO_TEXT" (-4))
    (g_LONGEST : GI K "LONGEST" (65536))
    (g_HOLD : GI K "HOLD" (1))
    (g_AT : GI K "AT" (2))
    (g_FIND : GI K "FIND" (3))
    (g_COMMON : GI K "COMMON" (4))
    (g_TWICE : GI K "TWICE" (5))
    (g_PIECES : GI K "PIECES" (6))
    (g_PIECE : GI K "PIECE" (7))
    (g_TURN : GI K "TURN" (8))
    (g_BACK : GI K "BACK" (9))
    (d_pl : DFc K "places_by" "places_by" sPlaces c)
    (d_rk : DF K "ranks_by" "ranks_by" sRanks)
    (d_pk : DF K "pair_keys" "pair_keys" sPair)
    (d_oe : DF K "order_ends" "order_ends" sOrder)
    (d_nu : DF K "numbers_in_order" "numbers_in_order" sNumbers)
    (d_sh : DF K "neighbours_share" "neighbours_share" sShare)
    (d_pb : DF K "pieces_before" "pieces_before" sBefore)
    (d_ne : DF K "end_with_new" "end_with_new" sNew)
    (d_rb : DF K "run_behind" "run_behind" sBehind)
    (d_ar : DF K "all_runs" "all_runs" sAllRuns)
    (d_be : DF K "better" "better" sBetter)
    (d_br : DF K "best_runs" "best_runs" sBest)
    (d_tt : DF K "turn_text" "turn_text" sTurn)
    (d_bb : DF K "bytes_before" "bytes_before" sBytes)
    (d_tk : DF K "text_back" "text_back" sBack)
    (d_up : DF K "ends_up_to" "ends_up_to" sUpto)
    (d_il : DF K "is_length" "is_length" sIsLen)
    (d_cs : DF K "call_size" "call_size" sSize)
    (d_an : DF K "answer" "answer" sAnswer)
    (d_as : DF K "answers" "answers" sAnswers)
    (d_i0 : MF K C "__init__" "Holder.__init__" sInit)
    (d_m1 : MF K C "hold" "Holder.hold" sHold)
    (d_mh : MF K C "has_place" "Holder.has_place" sHas)
    (d_m2 : MF K C "at" "Holder.at" sAt)
    (d_m3 : MF K C "find" "Holder.find" sFind)
    (d_m4 : MF K C "common" "Holder.common" sCommon)
    (d_m5 : MF K C "twice" "Holder.twice" sTwice)
    (d_m6 : MF K C "pieces" "Holder.pieces" sPieces)
    (d_m7 : MF K C "piece" "Holder.piece" sPiece)
    (d_m8 : MF K C "turn" "Holder.turn" sTurnM)
    (d_m9 : MF K C "back" "Holder.back" sBackM)
    : ∃ fd : FuncData, (∀ (s : Shared) (us : List Value), us.length = (["calls"] : List Str).length → BindsTo s fd ⟨us, []⟩ ((["calls"] : List Str).zip us)) ∧
      ∀ base : Heap, K.In base → base.Ns mainGlobals mg → base.BuiltinsAt mg Pt → FnOk P w K mg base CX0 5 fa fd ["calls"] (spAnswers K Pt) := by
  have gi : ∀ {x : Str} {i : Int}, GI K x i → GInt mg x i := fun ⟨t, a⟩ => ⟨_, PySem.W.mg_of X G a, t, rfl⟩
  obtain ⟨f_pl, fd_pl, n_pl, F_pl, hc_pl⟩ := d_pl
  obtain ⟨f_rk, fd_rk, n_rk, F_rk⟩ := d_rk
  obtain ⟨f_pk, fd_pk, n_pk, F_pk⟩ := d_pk
  obtain ⟨f_oe, fd_oe, n_oe, F_oe⟩ := d_oe
  obtain ⟨f_nu, fd_nu, n_nu, F_nu⟩ := d_nu
  obtain ⟨f_sh, fd_sh, n_sh, F_sh⟩ := d_sh
  obtain ⟨f_pb, fd_pb, n_pb, F_pb⟩ := d_pb
  obtain ⟨f_ne, fd_ne, n_ne, F_ne⟩ := d_ne
  obtain ⟨f_rb, fd_rb, n_rb, F_rb⟩ := d_rb
  obtain ⟨f_ar, fd_ar, n_ar, F_ar⟩ := d_ar
  obtain ⟨f_be, fd_be, n_be, F_be⟩ := d_be
  obtain ⟨f_br, fd_br, n_br, F_br⟩ := d_br
  obtain ⟨f_tt, fd_tt, n_tt, F_tt⟩ := d_tt
  obtain ⟨f_bb, fd_bb, n_bb, F_bb⟩ := d_bb
  obtain ⟨f_tk, fd_tk, n_tk, F_tk⟩ := d_tk
  obtain ⟨f_up, fd_up, n_up, F_up⟩ := d_up
  obtain ⟨f_il, fd_il, n_il, F_il⟩ := d_il
  obtain ⟨f_cs, fd_cs, n_cs, F_cs⟩ := d_cs
  obtain ⟨f_an, fd_an, n_an, F_an⟩ := d_an
  obtain ⟨f_as, fd_as, n_as, F_as⟩ := d_as
  obtain ⟨f_i0, fd_i0, n_i0, F_i0⟩ := d_i0
  obtain ⟨f_m1, fd_m1, n_m1, F_m1⟩ := d_m1
  obtain ⟨f_mh, fd_mh, n_mh, F_mh⟩ := d_mh
  obtain ⟨f_m2, fd_m2, n_m2, F_m2⟩ := d_m2
  obtain ⟨f_m3, fd_m3, n_m3, F_m3⟩ := d_m3
  obtain ⟨f_m4, fd_m4, n_m4, F_m4⟩ := d_m4
  obtain ⟨f_m5, fd_m5, n_m5, F_m5⟩ := d_m5
  obtain ⟨f_m6, fd_m6, n_m6, F_m6⟩ := d_m6
  obtain ⟨f_m7, fd_m7, n_m7, F_m7⟩ := d_m7
  obtain ⟨f_m8, fd_m8, n_m8, F_m8⟩ := d_m8
  obtain ⟨f_m9, fd_m9, n_m9, F_m9⟩ := d_m9
  have b_pl := F_pl.binds (ps := ["keys"]) fun _ _ _ _ _ _ us hl => let ⟨a, e⟩ := len1 hl; by subst e; rfl
  have b_rk := F_rk.binds (ps := ["keys", "order"]) fun _ _ _ _ _ _ us hl => let ⟨a, b, e⟩ := len2 hl; by subst e; rfl
  have b_pk := F_pk.binds (ps := ["ranks", "width"]) fun _ _ _ _ _ _ us hl => let ⟨a, b, e⟩ := len2 hl; by subst e; rfl
  have b_oe := F_oe.binds (ps := ["text"]) fun _ _ _ _ _ _ us hl => let ⟨a, e⟩ := len1 hl; by subst e; rfl
  have b_nu := F_nu.binds (ps := ["order"]) fun _ _ _ _ _ _ us hl => let ⟨a, e⟩ := len1 hl; by subst e; rfl
  have b_sh := F_sh.binds (ps := ["text", "order", "numbers"]) fun _ _ _ _ _ _ us hl => let ⟨a, b, d, e⟩ := len3 hl; by subst e; rfl
  have b_pb := F_pb.binds (ps := ["order", "shared"]) fun _ _ _ _ _ _ us hl => let ⟨a, b, e⟩ := len2 hl; by subst e; rfl
  have b_ne := F_ne.binds (ps := ["before", "k"]) fun _ _ _ _ _ _ us hl => let ⟨a, b, e⟩ := len2 hl; by subst e; rfl
  have b_rb := F_rb.binds (ps := ["shared", "first", "length"]) fun _ _ _ _ _ _ us hl => let ⟨a, b, d, e⟩ := len3 hl; by subst e; rfl
  have b_ar := F_ar.binds (ps := ["shared"]) fun _ _ _ _ _ _ us hl => let ⟨a, e⟩ := len1 hl; by subst e; rfl
  have b_be := F_be.binds (ps := ["run", "other"]) fun _ _ _ _ _ _ us hl => let ⟨a, b, e⟩ := len2 hl; by subst e; rfl
  have b_br := F_br.binds (ps := ["shared"]) fun _ _ _ _ _ _ us hl => let ⟨a, e⟩ := len1 hl; by subst e; rfl
  have b_tt := F_tt.binds (ps := ["text", "order"]) fun _ _ _ _ _ _ us hl => let ⟨a, b, e⟩ := len2 hl; by subst e; rfl
  have b_bb := F_bb.binds (ps := ["turned", "first"]) fun _ _ _ _ _ _ us hl => let ⟨a, b, e⟩ := len2 hl; by subst e; rfl
  have b_tk := F_tk.binds (ps := ["turned", "first"]) fun _ _ _ _ _ _ us hl => let ⟨a, b, e⟩ := len2 hl; by subst e; rfl
  have b_up := F_up.binds (ps := ["text", "order", "what", "equal_too"]) fun _ _ _ _ _ _ us hl => let ⟨a, b, d, f, e⟩ := len4 hl; by subst e; rfl
  have b_il := F_il.binds (ps := ["n"]) fun _ _ _ _ _ _ us hl => let ⟨a, e⟩ := len1 hl; by subst e; rfl
  have b_cs := F_cs.binds (ps := ["calls", "begin"]) fun _ _ _ _ _ _ us hl => let ⟨a, b, e⟩ := len2 hl; by subst e; rfl
  have b_an := F_an.binds (ps := ["holder", "call"]) fun _ _ _ _ _ _ us hl => let ⟨a, b, e⟩ := len2 hl; by subst e; rfl
  have b_as := F_as.binds (ps := ["calls"]) fun _ _ _ _ _ _ us hl => let ⟨a, e⟩ := len1 hl; by subst e; rfl
  have b_i0 := F_i0.binds (ps := ["self"]) fun _ _ _ _ _ _ us hl => let ⟨a, e⟩ := len1 hl; by subst e; rfl
  have b_m1 := F_m1.binds (ps := ["self", "n", "text"]) fun _ _ _ _ _ _ us hl => let ⟨a, b, d, e⟩ := len3 hl; by subst e; rfl
  have b_mh := F_mh.binds (ps := ["self", "i"]) fun _ _ _ _ _ _ us hl => let ⟨a, b, e⟩ := len2 hl; by subst e; rfl
  have b_m2 := F_m2.binds (ps := ["self", "k"]) fun _ _ _ _ _ _ us hl => let ⟨a, b, e⟩ := len2 hl; by subst e; rfl
  have b_m3 := F_m3.binds (ps := ["self", "length", "what"]) fun _ _ _ _ _ _ us hl => let ⟨a, b, d, e⟩ := len3 hl; by subst e; rfl
  have b_m4 := F_m4.binds (ps := ["self", "i", "j"]) fun _ _ _ _ _ _ us hl => let ⟨a, b, d, e⟩ := len3 hl; by subst e; rfl
  have b_m5 := F_m5.binds (ps := ["self", "times"]) fun _ _ _ _ _ _ us hl => let ⟨a, b, e⟩ := len2 hl; by subst e; rfl
  have b_m6 := F_m6.binds (ps := ["self"]) fun _ _ _ _ _ _ us hl => let ⟨a, e⟩ := len1 hl; by subst e; rfl
  have b_m7 := F_m7.binds (ps := ["self", "k"]) fun _ _ _ _ _ _ us hl => let ⟨a, b, e⟩ := len2 hl; by subst e; rfl
  have b_m8 := F_m8.binds (ps := ["self"]) fun _ _ _ _ _ _ us hl => let ⟨a, e⟩ := len1 hl; by subst e; rfl
  have b_m9 := F_m9.binds (ps := ["self", "n", "first", "turned"]) fun _ _ _ _ _ _ us hl => let ⟨a, b, d, f, e⟩ := len4 hl; by subst e; rfl
  obtain ⟨oc, od, kV, doc, pm, an, cdv, ct, osl, rfl, lk, hcd⟩ := id F_as.ex
  have e := hfa.symm.trans (PySem.W.mg_of X G n_as)
  cases e
  refine ⟨PySem.W.fnOf "answers" "answers" (defArgs sAnswers) (defBody sAnswers) (defScope sAnswers) .none kV doc pm an cdv ct, fun s us hu => let ⟨a, e⟩ := len1 hu; by subst e; exact .of_eq rfl, fun base hKb hns hbm => ?_⟩
  have T : Txt K mg base c Pt := ⟨PySem.W.codeHd_of_K hKb hcode, hbm, PySem.W.mg_none_of X G b_sorted, PySem.W.mg_none_of X G b_range, PySem.W.mg_none_of X G b_len, PySem.W.mg_none_of X G b_max, PySem.W.mg_none_of X G b_min⟩
  have TH : TxtH K mg base c Pt C := { T with cl := ⟨c_pg, c_hd, c_po, c_sa⟩, nT := c_ntext, nO := c_norder, nN := c_nnumbers, nS := c_nshared, nB := c_nbest, nP := c_nbefore, list := PySem.W.mg_none_of X G b_list, gNS := gi g_NONE_SUCH, gOR := gi g_OUT_OF_RANGE, gNT := gi g_NO_TEXT, gLG := gi g_LONGEST }
  have NM : Nums mg := ⟨gi g_HOLD, gi g_AT, gi g_FIND, gi g_COMMON, gi g_TWICE, gi g_PIECES, gi g_PIECE, gi g_TURN, gi g_BACK⟩
  have NR : NoRun K mg := by
    obtain ⟨a, od, t1, t2, t3, n, sl, e1, e2⟩ := nr
    exact ⟨a, PySem.W.mg_of X G e1, fun H => .inr ⟨_, _, n, e2, rfl, rfl, by show 3 ≤ sizeLine; decide, .cons ⟨t1, rfl⟩ (.cons ⟨t2, rfl⟩ (.cons ⟨t3, rfl⟩ .nil))⟩⟩
  have c_pl : Cal P w K mg base 1 "places_by" ["keys"] (spPlaces K Pt) := ⟨f_pl, fd_pl, PySem.W.mg_of X G n_pl, F_pl.kp, b_pl, ok_places F_pl hc_pl T⟩
  have c_rk : Cal P w K mg base 1 "ranks_by" ["keys", "order"] (spRanks K) := ⟨f_rk, fd_rk, PySem.W.mg_of X G n_rk, F_rk.kp, b_rk, ok_ranks F_rk T⟩
  have c_pk : Cal P w K mg base 1 "pair_keys" ["ranks", "width"] (spPair K) := ⟨f_pk, fd_pk, PySem.W.mg_of X G n_pk, F_pk.kp, b_pk, ok_pair F_pk T⟩
  have c_oe : Cal P w K mg base 2 "order_ends" ["text"] (spOrder K Pt) := ⟨f_oe, fd_oe, PySem.W.mg_of X G n_oe, F_oe.kp, b_oe, ok_order F_oe T c_pl c_rk c_pk⟩
  have c_nu : Cal P w K mg base 1 "numbers_in_order" ["order"] (spNumbers K) := ⟨f_nu, fd_nu, PySem.W.mg_of X G n_nu, F_nu.kp, b_nu, ok_numbers F_nu T⟩
  have c_sh : Cal P w K mg base 1 "neighbours_share" ["text", "order", "numbers"] (spShare K) := ⟨f_sh, fd_sh, PySem.W.mg_of X G n_sh, F_sh.kp, b_sh, ok_share F_sh T⟩
  have c_pb : Cal P w K mg base 1 "pieces_before" ["order", "shared"] (spBefore K) := ⟨f_pb, fd_pb, PySem.W.mg_of X G n_pb, F_pb.kp, b_pb, ok_before F_pb T⟩
  have c_ne : Cal P w K mg base 1 "end_with_new" ["before", "k"] (spNew K) := ⟨f_ne, fd_ne, PySem.W.mg_of X G n_ne, F_ne.kp, b_ne, ok_new F_ne T⟩
  have c_rb : Cal P w K mg base 1 "run_behind" ["shared", "first", "length"] (spBehind K) := ⟨f_rb, fd_rb, PySem.W.mg_of X G n_rb, F_rb.kp, b_rb, ok_behind F_rb T⟩
  have c_ar : Cal P w K mg base 1 "all_runs" ["shared"] (spAllRuns K) := ⟨f_ar, fd_ar, PySem.W.mg_of X G n_ar, F_ar.kp, b_ar, ok_allRuns F_ar T⟩
  have c_be : Cal P w K mg base 1 "better" ["run", "other"] (spBetter K) := ⟨f_be, fd_be, PySem.W.mg_of X G n_be, F_be.kp, b_be, ok_better F_be⟩
  have c_br : Cal P w K mg base 2 "best_runs" ["shared"] (spBest K) := ⟨f_br, fd_br, PySem.W.mg_of X G n_br, F_br.kp, b_br, ok_best F_br T NR c_ar c_be⟩
  have c_tt : Cal P w K mg base 1 "turn_text" ["text", "order"] (spTurn K) := ⟨f_tt, fd_tt, PySem.W.mg_of X G n_tt, F_tt.kp, b_tt, ok_turn F_tt⟩
  have c_bb : Cal P w K mg base 1 "bytes_before" ["turned", "first"] (spBytes K) := ⟨f_bb, fd_bb, PySem.W.mg_of X G n_bb, F_bb.kp, b_bb, ok_bytes F_bb (gi g_NO_BYTE)⟩
  have c_tk : Cal P w K mg base 2 "text_back" ["turned", "first"] (spBack K Pt) := ⟨f_tk, fd_tk, PySem.W.mg_of X G n_tk, F_tk.kp, b_tk, ok_back F_tk (gi g_NO_BYTE) c_bb c_pl c_nu⟩
  have c_up : Cal P w K mg base 1 "ends_up_to" ["text", "order", "what", "equal_too"] (spUpto K) := ⟨f_up, fd_up, PySem.W.mg_of X G n_up, F_up.kp, b_up, ok_upto F_up T⟩
  have c_il : Cal P w K mg base 1 "is_length" ["n"] (spIsLen) := ⟨f_il, fd_il, PySem.W.mg_of X G n_il, F_il.kp, b_il, ok_isLen F_il (gi g_LONGEST)⟩
  have c_mh : MCal P w K mg base C 1 "has_place" ["self", "i"] (spHas K C) := ⟨f_mh, fd_mh, n_mh, b_mh, ok_has F_mh TH⟩
  have c_m1 : MCal P w K mg base C 3 "hold" ["self", "n", "text"] (spWrite K C Pt (arHold K)) := ⟨f_m1, fd_m1, n_m1, b_m1, ok_hold F_m1 TH (c_il.mono (by decide)) c_oe (c_nu.mono (by decide)) (c_sh.mono (by decide)) c_br (c_pb.mono (by decide))⟩
  have c_m2 : MCal P w K mg base C 2 "at" ["self", "k"] (spRead K C arAt) := ⟨f_m2, fd_m2, n_m2, b_m2, ok_at F_m2 TH c_mh⟩
  have c_m3 : MCal P w K mg base C 2 "find" ["self", "length", "what"] (spRead K C (arFind K)) := ⟨f_m3, fd_m3, n_m3, b_m3, ok_find F_m3 TH c_il c_up⟩
  have c_m4 : MCal P w K mg base C 2 "common" ["self", "i", "j"] (spRead K C arCommon) := ⟨f_m4, fd_m4, n_m4, b_m4, ok_common F_m4 TH c_mh⟩
  have c_m5 : MCal P w K mg base C 1 "twice" ["self", "times"] (spRead K C arTwice) := ⟨f_m5, fd_m5, n_m5, b_m5, ok_twice F_m5 TH⟩
  have c_m6 : MCal P w K mg base C 1 "pieces" ["self"] (spRead K C arPieces) := ⟨f_m6, fd_m6, n_m6, b_m6, ok_pieces F_m6 TH⟩
  have c_m7 : MCal P w K mg base C 2 "piece" ["self", "k"] (spRead K C arPiece) := ⟨f_m7, fd_m7, n_m7, b_m7, ok_piece F_m7 TH c_ne c_rb⟩
  have c_m8 : MCal P w K mg base C 2 "turn" ["self"] (spRead K C arTurn) := ⟨f_m8, fd_m8, n_m8, b_m8, ok_turnM F_m8 TH c_tt⟩
  have c_m9 : MCal P w K mg base C 3 "back" ["self", "n", "first", "turned"] (spWrite K C Pt (arBack K)) := ⟨f_m9, fd_m9, n_m9, b_m9, ok_backM F_m9 TH (c_il.mono (by decide)) c_tk⟩
  have c_cs : Cal P w K mg base 1 "call_size" ["calls", "begin"] (spSize K) := ⟨f_cs, fd_cs, PySem.W.mg_of X G n_cs, F_cs.kp, b_cs, ok_size F_cs NM⟩
  have c_an : Cal P w K mg base 4 "answer" ["holder", "call"] (spAnswer K C Pt) := ⟨f_an, fd_an, PySem.W.mg_of X G n_an, F_an.kp, b_an, ok_answer F_an TH NM c_m1 (c_m2.mono (by decide)) (c_m3.mono (by decide)) (c_m4.mono (by decide)) (c_m5.mono (by decide)) (c_m6.mono (by decide)) (c_m7.mono (by decide)) (c_m8.mono (by decide)) c_m9⟩
  have GI0 : FnOk P w K mg base CX0 3 f_i0 fd_i0 ["self"] (spInit C) := (ok_init F_i0 TH).mono (by decide)
  exact ok_answers F_as TH (PySem.W.mg_of X G c_at) ⟨c_mks, n_i0.at_, n_i0.fn, c_kc⟩ b_i0 GI0 (c_cs.mono (by decide)) c_an
end W
end

namespace W
open PySem PySem.Spec PyProof.Rows L2
open PySem.W (Codec OpenSpec)
set_option Elab.async false
set_option maxRecDepth 100000
set_option maxHeartbeats 4000000
/-- the row's head, for this program -/
theorem walk_here {r : OpenSpec} {q : Program} {loose : List Str} {XP : (Str → Option Value) → Heap → Prop} {YP : World → Heap → Prop} {d : DefRec} {K : Params → PySem.W.Frag} {c Pt : Addr}
    (hwell : r.wellSaid = true) (hlen : r.args.length = (["calls"] : List Str).length) (hY : ∀ (w : World) (h : Heap), YP w h → (K w.params).In h)
    (hrec : ((recsOf q).find? (fun e => e.name == ("places_by" : Str))).isSome = true) (htab : ∀ w : World, PySem.W.tabIn (K w.params) "places_by" = some (c, Pt)) (hno : ∀ w : World, (K w.params).lookup Pt = none)
    (F : ∀ (w : World) (mg : Str → Option Value) (fa : Addr) (h : Heap), (K w.params).In h → h.Ns mainGlobals mg → mg d.name = some (.ref fa) →
      ∃ fd : FuncData, (∀ (s : Shared) (us : List Value), us.length = (["calls"] : List Str).length → BindsTo s fd ⟨us, []⟩ ((["calls"] : List Str).zip us)) ∧
        ∀ base : Heap, (K w.params).In base → base.Ns mainGlobals mg → base.BuiltinsAt mg Pt → FnOk r.prog w (K w.params) mg base CX0 5 fa fd ["calls"] (spAnswers (K w.params) Pt))
    (hsp : ∀ (K : PySem.W.Frag) (H H' : Hp) (xs : List V) (a : Codec.denoteAll r.args), Codec.withinAll r.args a = true → Codec.app r.args r.asked a = true → DwAll K H xs (Codec.encAll r.args a) → Same H H' → H' Pt = some (.tbl #[]) →
      spAnswers K Pt xs H' (fun v H' => Dw K H' v (r.ret.enc (Codec.app r.args r.f a))) fun _ _ _ => False) :
    PySem.W.WalkOS q loose XP YP r d [] (fun f vs => PySem.call f vs) :=
  walk_tab (sp := fun K => spAnswers K Pt) hwell hlen ⟨rfl, by decide, by decide⟩ hY hrec htab hno F hsp
end W
open PySem PySem.W PyProof.Rows
set_option Elab.async false
set_option maxRecDepth 100000 in
set_option maxHeartbeats 0 in
theorem PySem.Challenge.cw_textends_s01_answers_holds : PySem.Challenge.rw_textends_s01_answers.Holds := by
  w_on; k_headS; (case hw => exact ⟨[.list []], by decide +kernel, by decide +kernel⟩)
  k_fillS
  refine' _root_.W.walk_here (r := PySem.Challenge.rw_textends_s01_answers) (by decide +kernel) rfl (fun w h Y => PySem.W.kIn_of Y) ?hrec ?htab ?hno ?F ?S
  case hrec => decide +kernel
  case htab =>
    intro w
    refine' _root_.W.tab_mk ?a ?l ?z ?lc ?z2
    (case a => k_is); (case l => k_is); (case z => rfl); (case lc => k_is); (case z2 => rfl)
  case hno =>
    intro w
    kernel_rfl
  case F =>
    intro w mg fa h KX G hmg
    refine' _root_.W.all_ok KX G hmg ?hcode ?c_at ?c_pg ?c_hd ?c_po ?c_sa ?c_mks ?c_kc ?c_ntext ?c_norder ?c_nnumbers ?c_nshared ?c_nbest ?c_nbefore ?nr ?b_sorted ?b_range ?b_len ?b_max ?b_min ?b_list ?g_NO_BYTE ?g_NONE_SUCH ?g_OUT_OF_RANGE ?g_NO_TEXT ?g_LONGEST ?g_HOLD ?g_AT ?g_FIND ?g_COMMON ?g_TWICE ?g_PIECES ?g_PIECE ?g_TURN ?g_BACK ?d_pl ?d_rk ?d_pk ?d_oe ?d_nu ?d_sh ?d_pb ?d_ne ?d_rb ?d_ar ?d_be ?d_br ?d_tt ?d_bb ?d_tk ?d_up ?d_il ?d_cs ?d_an ?d_as ?d_i0 ?d_m1 ?d_mh ?d_m2 ?d_m3 ?d_m4 ?d_m5 ?d_m6 ?d_m7 ?d_m8 ?d_m9
    case hcode => kernel_rfl
    case c_at => k_is
    case c_pg => k_is
    case c_hd => k_is
    case c_po => k_is
    case c_sa => k_is
    case c_mks => k_is
    case c_kc => k_is
    case c_ntext => k_is
    case c_norder => k_is
    case c_nnumbers => k_is
    case c_nshared => k_is
    case c_nbest => k_is
    case c_nbefore => k_is
    case nr => (refine' _root_.W.nrf_mk ?a ?l; (case a => k_is); (case l => k_is))
    case b_sorted => k_is
    case b_range => k_is
    case b_len => k_is
    case b_max => k_is
    case b_min => k_is
    case b_list => k_is
    case g_NO_BYTE => (refine' _root_.W.gi_mk ?a; (case a => k_is))
    case g_NONE_SUCH => (refine' _root_.W.gi_mk ?a; (case a => k_is))
    case g_OUT_OF_RANGE => (refine' _root_.W.gi_mk ?a; (case a => k_is))
    case g_NO_TEXT => (refine' _root_.W.gi_mk ?a; (case a => k_is))
    case g_LONGEST => (refine' _root_.W.gi_mk ?a; (case a => k_is))
    case g_HOLD => (refine' _root_.W.gi_mk ?a; (case a => k_is))
    case g_AT => (refine' _root_.W.gi_mk ?a; (case a => k_is))
    case g_FIND => (refine' _root_.W.gi_mk ?a; (case a => k_is))
    case g_COMMON => (refine' _root_.W.gi_mk ?a; (case a => k_is))
    case g_TWICE => (refine' _root_.W.gi_mk ?a; (case a => k_is))
    case g_PIECES => (refine' _root_.W.gi_mk ?a; (case a => k_is))
    case g_PIECE => (refine' _root_.W.gi_mk ?a; (case a => k_is))
    case g_TURN => (refine' _root_.W.gi_mk ?a; (case a => k_is))
    case g_BACK => (refine' _root_.W.gi_mk ?a; (case a => k_is))
    case d_pl => (refine' _root_.W.dfc_mk ?a ?l ?c ?k; (case a => k_is); (case l => k_is); (case c => k_is); (case k => k_is))
    case d_rk => (refine' _root_.W.df_mk ?a ?l ?c ?k; (case a => k_is); (case l => k_is); (case c => k_is); (case k => k_is))
    case d_pk => (refine' _root_.W.df_mk ?a ?l ?c ?k; (case a => k_is); (case l => k_is); (case c => k_is); (case k => k_is))
    case d_oe => (refine' _root_.W.df_mk ?a ?l ?c ?k; (case a => k_is); (case l => k_is); (case c => k_is); (case k => k_is))
    case d_nu => (refine' _root_.W.df_mk ?a ?l ?c ?k; (case a => k_is); (case l => k_is); (case c => k_is); (case k => k_is))
    case d_sh => (refine' _root_.W.df_mk ?a ?l ?c ?k; (case a => k_is); (case l => k_is); (case c => k_is); (case k => k_is))
    case d_pb => (refine' _root_.W.df_mk ?a ?l ?c ?k; (case a => k_is); (case l => k_is); (case c => k_is); (case k => k_is))
    case d_ne => (refine' _root_.W.df_mk ?a ?l ?c ?k; (case a => k_is); (case l => k_is); (case c => k_is); (case k => k_is))
    case d_rb => (refine' _root_.W.df_mk ?a ?l ?c ?k; (case a => k_is); (case l => k_is); (case c => k_is); (case k => k_is))
    case d_ar => (refine' _root_.W.df_mk ?a ?l ?c ?k; (case a => k_is); (case l => k_is); (case c => k_is); (case k => k_is))
    case d_be => (refine' _root_.W.df_mk ?a ?l ?c ?k; (case a => k_is); (case l => k_is); (case c => k_is); (case k => k_is))
    case d_br => (refine' _root_.W.df_mk ?a ?l ?c ?k; (case a => k_is); (case l => k_is); (case c => k_is); (case k => k_is))
    case d_tt => (refine' _root_.W.df_mk ?a ?l ?c ?k; (case a => k_is); (case l => k_is); (case c => k_is); (case k => k_is))
    case d_bb => (refine' _root_.W.df_mk ?a ?l ?c ?k; (case a => k_is); (case l => k_is); (case c => k_is); (case k => k_is))
    case d_tk => (refine' _root_.W.df_mk ?a ?l ?c ?k; (case a => k_is); (case l => k_is); (case c => k_is); (case k => k_is))
    case d_up => (refine' _root_.W.df_mk ?a ?l ?c ?k; (case a => k_is); (case l => k_is); (case c => k_is); (case k => k_is))
    case d_il => (refine' _root_.W.df_mk ?a ?l ?c ?k; (case a => k_is); (case l => k_is); (case c => k_is); (case k => k_is))
    case d_cs => (refine' _root_.W.df_mk ?a ?l ?c ?k; (case a => k_is); (case l => k_is); (case c => k_is); (case k => k_is))
    case d_an => (refine' _root_.W.df_mk ?a ?l ?c ?k; (case a => k_is); (case l => k_is); (case c => k_is); (case k => k_is))
    case d_as => (refine' _root_.W.df_mk ?a ?l ?c ?k; (case a => k_is); (case l => k_is); (case c => k_is); (case k => k_is))
    case d_i0 => (refine' _root_.W.mf_mk ?a ?i ?l ?c ?k; (case a => k_is); (case i => k_is); (case l => k_is); (case c => k_is); (case k => k_is))
    case d_m1 => (refine' _root_.W.mf_mk ?a ?i ?l ?c ?k; (case a => k_is); (case i => k_is); (case l => k_is); (case c => k_is); (case k => k_is))
    case d_mh => (refine' _root_.W.mf_mk ?a ?i ?l ?c ?k; (case a => k_is); (case i => k_is); (case l => k_is); (case c => k_is); (case k => k_is))
    case d_m2 => (refine' _root_.W.mf_mk ?a ?i ?l ?c ?k; (case a => k_is); (case i => k_is); (case l => k_is); (case c => k_is); (case k => k_is))
    case d_m3 => (refine' _root_.W.mf_mk ?a ?i ?l ?c ?k; (case a => k_is); (case i => k_is); (case l => k_is); (case c => k_is); (case k => k_is))
    case d_m4 => (refine' _root_.W.mf_mk ?a ?i ?l ?c ?k; (case a => k_is); (case i => k_is); (case l => k_is); (case c => k_is); (case k => k_is))
    case d_m5 => (refine' _root_.W.mf_mk ?a ?i ?l ?c ?k; (case a => k_is); (case i => k_is); (case l => k_is); (case c => k_is); (case k => k_is))
    case d_m6 => (refine' _root_.W.mf_mk ?a ?i ?l ?c ?k; (case a => k_is); (case i => k_is); (case l => k_is); (case c => k_is); (case k => k_is))
    case d_m7 => (refine' _root_.W.mf_mk ?a ?i ?l ?c ?k; (case a => k_is); (case i => k_is); (case l => k_is); (case c => k_is); (case k => k_is))
    case d_m8 => (refine' _root_.W.mf_mk ?a ?i ?l ?c ?k; (case a => k_is); (case i => k_is); (case l => k_is); (case c => k_is); (case k => k_is))
    case d_m9 => (refine' _root_.W.mf_mk ?a ?i ?l ?c ?k; (case a => k_is); (case i => k_is); (case l => k_is); (case c => k_is); (case k => k_is))
  case S =>
    intro K H H' xs a hwi hask hx hS hP
    cases hx with
    | cons h1 h2 =>
      cases h2
      cases h1 with
      | lst hs ha =>
        have e := L2.ints_dw a.1 _ ha
        subst e
        exact ⟨_, a.1, rfl, hS.seq hs, hask, .inl hP, fun H'' p hp => .lst (L2.SqL.of hp) (L2.dw_ints _)⟩
#print axioms PySem.Challenge.cw_textends_s01_answers_holds
