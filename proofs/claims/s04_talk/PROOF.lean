import PyProof.Rows.All
import Wide.All
import OpenK.AllK
import Wide.FinOn
import PyProof.EqAt
import PyProof.EqKinds
import PyProof.TupleCall
import KE.BitLaws
import Open.SpecLaws
import KE.OsHead
import KE.OsGo
import KE.KSortTupG
import PyQl88
import PySem.Challenge.RW_agreed_s04_talk
set_option Elab.async false
set_option linter.all false
set_option maxRecDepth 100000
/-! THE HAND LAYER, for ints, bools, texts, own classes, lists, tuples, dicts, comprehensions, walks over dicts, enumerate, zip, reversed, texts, calls, loops. Paste it whole ahead of your own text; what your proof does not reach may be deleted. -/
namespace L2
open PySem PySem.Spec PyProof.Rows

/-- a key: an int or a str -/
abbrev Key := Sum Int Str
def keyIs : Key → Value → Bool
  | .inl k, v => Value.isInt k v
  | .inr x, v => Value.isStrOf x v
def keyH (w : World) : Key → Int
  | .inl k => hashInt k
  | .inr x => hashStr w x
theorem keyIs_shape : ∀ {k : Key} {v : Value}, keyIs k v = true → (∃ i t, k = Sum.inl i ∧ v = Value.int i t) ∨ (∃ x t, k = Sum.inr x ∧ v = Value.str x t)
  | .inl i, v, h => by
    obtain ⟨t, e⟩ := Value.isInt_shape (k := i) (v := v) h
    exact .inl ⟨i, t, rfl, e⟩
  | .inr x, v, h => by
    obtain ⟨t, e⟩ := Value.isStrOf_shape (x := x) (v := v) h
    exact .inr ⟨x, t, rfl, e⟩
theorem key_ll (a b : Int) : decide ((Sum.inl a : Key) = Sum.inl b) = (a == b) := by
  by_cases e : a = b
  · subst e; simp
  · have h : ¬ (Sum.inl a : Key) = Sum.inl b := fun q => e (Sum.inl.inj q)
    rw [decide_eq_false h]
    exact (beq_eq_false_iff_ne.mpr e).symm
theorem key_rr (a b : Str) : decide ((Sum.inr a : Key) = Sum.inr b) = decide (a = b) := by
  by_cases e : a = b
  · subst e; simp
  · have h : ¬ (Sum.inr a : Key) = Sum.inr b := fun q => e (Sum.inr.inj q)
    rw [decide_eq_false h, decide_eq_false e]
theorem key_lr (a : Int) (b : Str) : decide ((Sum.inl a : Key) = Sum.inr b) = false := decide_eq_false (fun q => nomatch q)
theorem key_rl (a : Str) (b : Int) : decide ((Sum.inr a : Key) = Sum.inl b) = false := decide_eq_false (fun q => nomatch q)

def mixKind (prog : Program) (w : World) : PySem.KeyKind prog w Key where
  is := keyIs
  hash := keyH w
  inj := fun v a b ha hb => by
    rcases keyIs_shape ha with ⟨i, t, rfl, rfl⟩ | ⟨x, t, rfl, rfl⟩
    · rcases keyIs_shape hb with ⟨j, u, rfl, e⟩ | ⟨y, u, rfl, e⟩
      · injection e with e1 _; rw [e1]
      · exact nomatch e
    · rcases keyIs_shape hb with ⟨j, u, rfl, e⟩ | ⟨y, u, rfl, e⟩
      · exact nomatch e
      · injection e with e1 _; rw [e1]
  byValue := fun k v h => by
    rcases keyIs_shape h with ⟨i, t, rfl, rfl⟩ | ⟨x, t, rfl, rfl⟩ <;> rfl
  pyHash := fun hv h => by
    rcases keyIs_shape hv with ⟨i, t, rfl, rfl⟩ | ⟨x, t, rfl, rfl⟩
    · exact wpAny_pyHash_int h
    · exact wpAny_pyHash_str h
  eqBool := fun hu hv h => by
    rcases keyIs_shape hu with ⟨i, t, rfl, rfl⟩ | ⟨x, t, rfl, rfl⟩
    · rcases keyIs_shape hv with ⟨j, u, rfl, rfl⟩ | ⟨y, u, rfl, rfl⟩
      · rw [key_ll] at h; exact wpAny_eqBool_int h
      · rw [key_lr] at h; exact SeqAt.EqAt.int_str i t y u _ _ _ _ h
    · rcases keyIs_shape hv with ⟨j, u, rfl, rfl⟩ | ⟨y, u, rfl, rfl⟩
      · rw [key_rl] at h; exact SeqAt.EqAt.str_int x t j u _ _ _ _ h
      · rw [key_rr] at h; exact wpAny_eqBool_str h
  «strs» := fun k x t v h => by
    rcases keyIs_shape h with ⟨i, u, rfl, e⟩ | ⟨y, u, rfl, e⟩
    · exact nomatch e
    · injection e with e1 _
      subst e1
      cases v <;> rfl

end L2

namespace L2
open PySem PySem.Spec PyProof.Rows

/-- a value, without the heap -/
inductive V where
  | non | bl (b : Bool) | int (i : Int) | str (x : Str) | byt (b : Array UInt8) | flt (b : UInt64) | ref (a : Addr) | ty (n : String)
  deriving DecidableEq

def RelV : V → Value → Prop
  | .non, u => u = Value.none
  | .bl b, u => u = Value.bool b
  | .int i, u => ∃ t, u = Value.int i t
  | .str x, u => ∃ t, u = Value.str x t
  | .byt b, u => ∃ t, u = Value.bytes b t
  | .flt b, u => ∃ t, u = Value.float b t
  | .ref a, u => u = Value.ref a
  | .ty n, u => u = Value.type n

abbrev Vals : List V → List Value → Prop := Paired RelV
theorem Vals.length {xs : List V} {us : List Value} (r : Vals xs us) : xs.length = us.length := Paired.length r
theorem Vals.get : ∀ {xs : List V} {us : List Value} {i : Nat} {x : V}, Vals xs us → xs[i]? = some x → ∃ u, us[i]? = some u ∧ RelV x u
  | _, _, _, _, .nil, e => by simp at e
  | _, _, 0, _, .cons r _, e => by simp at e; subst e; exact ⟨_, rfl, r⟩
  | _, _, i + 1, x, .cons _ t, e => by
    obtain ⟨u, h1, h2⟩ := Vals.get (i := i) (x := x) t (by simpa using e)
    exact ⟨u, by simpa using h1, h2⟩
theorem Vals.set {x : V} {u : Value} (r : RelV x u) : ∀ {xs : List V} {us : List Value} (i : Nat), Vals xs us → Vals (xs.set i x) (us.set i u)
  | _, _, _, .nil => .nil
  | _, _, 0, .cons _ t => .cons r t
  | _, _, i + 1, .cons q t => .cons q (Vals.set r i t)
theorem Vals.append : ∀ {xs ys : List V} {us ws : List Value}, Vals xs us → Vals ys ws → Vals (xs ++ ys) (us ++ ws)
  | _, _, _, _, .nil, s => s
  | _, _, _, _, .cons r t, s => .cons r (Vals.append t s)
theorem Vals.take : ∀ {xs : List V} {us : List Value} (n : Nat), Vals xs us → Vals (xs.take n) (us.take n)
  | _, _, 0, _ => .nil
  | _, _, _ + 1, .nil => .nil
  | _, _, n + 1, .cons r t => .cons r (Vals.take n t)
theorem Vals.drop : ∀ {xs : List V} {us : List Value} (n : Nat), Vals xs us → Vals (xs.drop n) (us.drop n)
  | _, _, 0, r => r
  | _, _, _ + 1, .nil => .nil
  | _, _, n + 1, .cons _ t => Vals.drop n t

def RelO : Option V → Option Value → Prop
  | some v, some u => RelV v u
  | none, none => True
  | _, _ => False
def KV {κ : Type} : List (κ × V) → List (κ × Value) → Prop := Paired fun (p : κ × V) (q : κ × Value) => p.1 = q.1 ∧ RelV p.2 q.2

/-- a key of a dict (00_mix): an int or a text -/
def kV : Key → V
  | .inl i => .int i
  | .inr x => .str x

/-- what stands at a tracked address -/
inductive HO where
  /-- a list -/
  | lst (xs : List V)
  /-- a tuple (never changes) -/
  | tup (xs : List V)
  /-- a dict whose keys are ints and texts; one whose keys are tuples of ints and texts (the empty one is both) -/
  | dK (kvs : List (Key × V)) | dT (kvs : List (List Key × V))
  /-- a set of ints: its members, its size -/
  | set (S : Int → Bool) (n : Nat)
  /-- an instance of the class at C, its dict at dx, its attributes -/
  | ins (C dx : Addr) (fs : List (Str × V))
  /-- the dict of the instance at x -/
  | own (x : Addr)
  /-- the dict of an exception -/
  | xd (fs : List (Str × V))
  /-- a bound method, f of x -/
  | met (f x : Addr)
  /-- a range object lo, lo + 1, .. below hi -/
  | rng (lo hi : Int)
  /-- a thing that is known to the object (the script; a dict while a loop walks it): read, never written while it is so -/
  | frz (o : Obj) (u : HO)
  /-- a code object's table -/
  | tbl (ps : Array Value)
  /-- any other thing, by what is true of its one object (a def of one's own: SetO a S n := HO.ext fun h => ..) -/
  | ext (φ : Heap → Prop)

abbrev Hp := Addr → Option HO
def upd (H : Hp) (a : Addr) (o : HO) : Hp := fun b => if b = a then some o else H b
theorem upd_same {H : Hp} {a : Addr} {o : HO} : upd H a o a = some o := by unfold upd; rw [if_pos rfl]
theorem upd_ne {H : Hp} {a b : Addr} {o : HO} (h : b ≠ a) : upd H a o b = H b := by unfold upd; rw [if_neg h]
/-- two objects of different content stand apart -/
theorem ne_of {H : Hp} {a b : Addr} {o u : HO} (h : H a = some o) (h' : H b = some u) (d : o ≠ u) : a ≠ b := by
  intro e; subst e; rw [h] at h'; exact d (Option.some.inj h')
theorem ne_of_none {H : Hp} {a b : Addr} {o : HO} (h : H a = some o) (h' : H b = none) : a ≠ b := by
  intro e; subst e; rw [h] at h'; cases h'

section
variable (P : Program) (w : World)
def ObjOk (H : Hp) (h : Heap) (a : Addr) : HO → Prop
  | .lst xs => xs.length ≤ sizeLine ∧ ∃ (its : List Value) (n : Nat), Vals xs its ∧ h.get? a = some { cls := .type "list", data := .seq its.toArray n }
  | .tup xs => xs.length ≤ sizeLine ∧ ∃ its : List Value, Vals xs its ∧ IsTup h a its.toArray
  | .dK kvs => kvs.length ≤ sizeLine ∧ (a == sysModules) = false ∧ ∃ vs, KV kvs vs ∧ h.DictOf (mixKind P w) a vs
  | .dT kvs => kvs.length ≤ sizeLine ∧ (a == sysModules) = false ∧ ∃ xs : List (List Key × Addr × Value),
      Paired (fun (p : List Key × V) (q : List Key × Addr × Value) => p.1 = q.1 ∧ H q.2.1 = some (.tup (p.1.map kV)) ∧ RelV p.2 q.2.2) kvs xs ∧
      ∃ o es ep, h.get? a = some o ∧ o.ExactDict ∧ o.data = .dict es ep ∧ es.toList = xs.map (entryOfKey (tupleKind (mixKind P w))) ∧ (xs.map (·.1)).Nodup
  | .set S n => h.SetOf (intKind P w) a S n
  | .ins C dx fs => H dx = some (.own a) ∧ fs.length ≤ 1000 ∧ dx ≠ a ∧ h.get? a = some (PySem.W.instObj C dx) ∧
      ∃ mA, h.Ns1 dx mA ∧ (∀ f, RelO (fs.lookup f) (mA f)) ∧ PySem.Within mA (fs.map (·.1))
  | .own _ => ∃ o, h.get? a = some o
  | .xd fs => ∃ mA, h.Ns1 a mA ∧ ∀ f, RelO (fs.lookup f) (mA f)
  | .rng lo hi => ∃ t u v, h.get? a = some { cls := .type "range", data := .fields #[.int lo t, .int hi u, .int 1 v] }
  | .frz o u => h.get? a = some o ∧ ObjOk H h a u
  | .tbl ps => h.get? a = some { cls := .none, data := .fields ps }
  | .met f x => h.get? a = some (PySem.W.methodObj (.ref f) (.ref x))
  | .ext φ => φ h ∧ (∃ o, h.get? a = some o) ∧ ∀ h1 h2 : Heap, φ h1 → (∀ o, h1.get? a = some o → h2.get? a = some o) → φ h2
/-- the abstract heap is held -/
def HOk (H : Hp) (h : Heap) : Prop := ∀ a o, H a = some o → ObjOk P w H h a o
end

section
variable {P : Program} {w : World} {H H' : Hp} {h h' : Heap} {a : Addr} {o : HO}
theorem ObjOk.lt (x : ObjOk P w H h a o) : a < h.objs.size := by
  cases o with
  | lst xs => obtain ⟨_, _, _, _, e⟩ := x; exact Heap.lt_size e
  | tup xs => obtain ⟨_, _, _, p⟩ := x; exact p.lt
  | dK kvs => obtain ⟨_, _, _, _, o, _, _, e, _⟩ := x; exact Heap.lt_size e
  | dT kvs => obtain ⟨_, _, _, _, o, _, _, e, _⟩ := x; exact Heap.lt_size e
  | set S n => obtain ⟨o, _, _, _, e, _⟩ := x; exact Heap.lt_size e
  | ins C dx fs => obtain ⟨_, _, _, e, _⟩ := x; exact Heap.lt_size e
  | own y => obtain ⟨_, e⟩ := x; exact Heap.lt_size e
  | xd fs => obtain ⟨_, ⟨_, _, _, e, _⟩, _⟩ := x; exact Heap.lt_size e
  | rng lo hi => obtain ⟨_, _, _, e⟩ := x; exact Heap.lt_size e
  | frz ob u => obtain ⟨e, _⟩ := x; exact Heap.lt_size e
  | tbl ps => exact Heap.lt_size (show h.get? a = some _ from x)
  | met f y => exact Heap.lt_size (show h.get? a = some _ from x)
  | ext φ => obtain ⟨_, ⟨_, e⟩, _⟩ := x; exact Heap.lt_size e
theorem Paired.mapP {α β : Type} {F G : α → β → Prop} : ∀ {l₁ : List α} {l₂ : List β}, Paired F l₁ l₂ → (∀ a b, F a b → G a b) → Paired G l₁ l₂
  | _, _, .nil, _ => .nil
  | _, _, .cons r t, f => .cons (f _ _ r) (Paired.mapP t f)
/-- what an object's description leans on: its own object, its own dict, the tuples -/
theorem ObjOk.stay (x : ObjOk P w H h a o) (k : ∀ b u, (b = a ∨ H b = some (.own a)) → h.get? b = some u → h'.get? b = some u)
    (ho : ∀ b, H b = some (.own a) → H' b = some (.own a)) (ht : ∀ b xs, H b = some (.tup xs) → H' b = some (.tup xs)) : ObjOk P w H' h' a o := by
  induction o with
  | lst xs => obtain ⟨z, its, n, r, e⟩ := x; exact ⟨z, its, n, r, k _ _ (.inl rfl) e⟩
  | tup xs => obtain ⟨z, its, r, ob, e, c⟩ := x; exact ⟨z, its, r, ob, k _ _ (.inl rfl) e, c⟩
  | dK kvs => obtain ⟨z, y, vs, r, ob, es, ep, e, c⟩ := x; exact ⟨z, y, vs, r, ob, es, ep, k _ _ (.inl rfl) e, c⟩
  | dT kvs =>
    obtain ⟨z, y, xs, r, ob, es, ep, e, c⟩ := x
    exact ⟨z, y, xs, Paired.mapP r fun p q z => ⟨z.1, ht _ _ z.2.1, z.2.2⟩, ob, es, ep, k _ _ (.inl rfl) e, c⟩
  | set S n => obtain ⟨ob, es, ep, t, e, c⟩ := x; exact ⟨ob, es, ep, t, k _ _ (.inl rfl) e, c⟩
  | ins C dx fs =>
    obtain ⟨d, z, ne, e, mA, ⟨od, es, ep, e2, c⟩, r⟩ := x
    exact ⟨ho _ d, z, ne, k _ _ (.inl rfl) e, mA, ⟨od, es, ep, k _ _ (.inr d) e2, c⟩, r⟩
  | own y => obtain ⟨ob, e⟩ := x; exact ⟨ob, k _ _ (.inl rfl) e⟩
  | xd fs => obtain ⟨mA, ⟨od, es, ep, e, c⟩, r⟩ := x; exact ⟨mA, ⟨od, es, ep, k _ _ (.inl rfl) e, c⟩, r⟩
  | rng lo hi => obtain ⟨t, u, v, e⟩ := x; exact ⟨t, u, v, k _ _ (.inl rfl) e⟩
  | frz ob u ih => obtain ⟨e, q⟩ := x; exact ⟨k _ _ (.inl rfl) e, ih q⟩
  | tbl ps =>
    have e : h.get? a = some { cls := .none, data := .fields ps } := x
    show h'.get? a = some { cls := .none, data := .fields ps }
    exact k a _ (.inl rfl) e
  | met f y =>
    have e : h.get? a = some (PySem.W.methodObj (.ref f) (.ref y)) := x
    show h'.get? a = some (PySem.W.methodObj (.ref f) (.ref y))
    exact k a _ (.inl rfl) e
  | ext φ => obtain ⟨p, ⟨o, e⟩, st⟩ := x; exact ⟨st _ _ p fun o q => k _ _ (.inl rfl) q, ⟨o, k _ _ (.inl rfl) e⟩, st⟩
theorem HOk.lt (x : HOk P w H h) (e : H a = some o) : a < h.objs.size := (x a o e).lt
theorem HOk.fresh (x : HOk P w H h) (e : h.objs.size ≤ a) : H a = none := by
  cases q : H a with
  | none => rfl
  | some u => exact absurd (Nat.lt_of_lt_of_le (x.lt q) e) (Nat.lt_irrefl _)
/-- every object of the heap is kept -/
theorem HOk.kept (x : HOk P w H h) (k : ∀ b u, h.get? b = some u → h'.get? b = some u) : HOk P w H h' := fun a o e =>
  (x a o e).stay (fun b u _ q => k b u q) (fun _ q => q) fun _ _ q => q
/-- a new object is laid and tracked -/
theorem HOk.laid (x : HOk P w H h) (k : ∀ b u, h.get? b = some u → h'.get? b = some u) (hp : h.objs.size ≤ a) (new : ObjOk P w (upd H a o) h' a o) : HOk P w (upd H a o) h' := fun b u e => by
  have hn := x.fresh hp
  by_cases hb : b = a
  · subst hb; rw [upd_same] at e; cases e; exact new
  · rw [upd_ne hb] at e
    exact (x b u e).stay (fun c v _ q => k c v q) (fun c q => by rw [upd_ne (ne_of_none q hn)]; exact q) fun c xs q => by rw [upd_ne (ne_of_none q hn)]; exact q
end

/-- what may be read as u: it is u, or a known u -/
def Rd (H : Hp) (a : Addr) (u : HO) : Prop := H a = some u ∨ ∃ o, H a = some (.frz o u)
theorem Rd.of {H : Hp} {a : Addr} {u : HO} (h : H a = some u) : Rd H a u := .inl h
theorem Rd.ok {P : Program} {w : World} {H : Hp} {h : Heap} {a : Addr} {u : HO} (r : Rd H a u) (x : HOk P w H h) : ObjOk P w H h a u := by
  rcases r with r | ⟨o, r⟩
  · exact x a u r
  · obtain ⟨_, q⟩ := x a _ r
    exact q
/-- what may be written -/
def Mut : Option HO → Prop
  | some (.lst _) => True
  | some (.dK _) => True
  | some (.dT _) => True
  | some (.set _ _) => True
  | some (.ins _ _ _) => True
  | some (.ext _) => True
  | _ => False
section
variable {P : Program} {w : World} {H : Hp} {h h' : Heap} {x e : Addr} {o' : HO}
/-- the object at e is changed: x itself, or the dict of the instance x -/
theorem HOk.write (ok : HOk P w H h) (mu : Mut (H x)) (he : e = x ∨ H e = some (.own x)) (k : ∀ b u, b ≠ e → h.get? b = some u → h'.get? b = some u) (heo : ∃ u, h'.get? e = some u)
    (new : ObjOk P w (upd H x o') h' x o') : HOk P w (upd H x o') h' := fun b u q => by
  have nown : ∀ c y, H c = some (.own y) → c ≠ x := fun c y r z => by subst z; rw [r] at mu; exact mu
  have ntup : ∀ c xs, H c = some (.tup xs) → c ≠ x := fun c xs r z => by subst z; rw [r] at mu; exact mu
  by_cases hb : b = x
  · subst hb; rw [upd_same] at q; cases q; exact new
  · rw [upd_ne hb] at q
    by_cases hbe : b = e
    · have q' : H b = some (.own x) := by
        rcases he with z | z
        · exact absurd (hbe.trans z) hb
        · rw [hbe]; exact z
      rw [q] at q'; cases q'
      obtain ⟨v, hv⟩ := heo
      exact ⟨v, by rw [hbe]; exact hv⟩
    · refine (ok b u q).stay (fun c v hc r => k c v ?_ r) (fun c r => by rw [upd_ne (nown c b r)]; exact r) fun c xs r => by rw [upd_ne (ntup c xs r)]; exact r
      rcases hc with rfl | hc
      · exact hbe
      · rintro rfl
        rcases he with z | z
        · exact nown c b hc z
        · rw [hc] at z; cases z; exact hb rfl
end

/-! ### kept unless tracked; of the frames at fs (the callers') the slots may change (an exception that passes writes there); of the records at ex (iterators) nothing is said -/
structure Un (fs ex : List Addr) (H H' : Hp) (h h' : Heap) : Prop where
  keep : ∀ b o, h.get? b = some o → H b = none → b ∉ fs → b ∉ ex → h'.get? b = some o
  slot : ∀ b o, h.get? b = some o → H b = none → b ∈ fs → b ∉ ex → ∃ sl, h'.get? b = some { o with slots := sl }
  free : ∀ b o, h.get? b = some o → H b = none → b ∉ ex → H' b = none
  there : ∀ b o, h.get? b = some o → b ∉ ex → ∃ o', h'.get? b = some o'
  tups : ∀ b xs, H b = some (.tup xs) → H' b = some (.tup xs)
  frzs : ∀ b o u, H b = some (.frz o u) → H' b = some (.frz o u)
  tbls : ∀ b ps, H b = some (.tbl ps) → ∃ more, H' b = some (.tbl (ps ++ more))
section
variable {fs fs' ex ex' : List Addr} {H H1 H2 : Hp} {h h1 h2 h' : Heap} {a x e : Addr} {o : HO}
theorem Un.any (u : Un fs ex H H1 h h1) {b : Addr} {ob : Obj} (q : h.get? b = some ob) (n : H b = none) (hx : b ∉ ex) : ∃ sl, h1.get? b = some { ob with slots := sl } := by
  by_cases hb : b ∈ fs
  · exact u.slot b ob q n hb hx
  · exact ⟨ob.slots, u.keep b ob q n hb hx⟩
theorem Un.trans (a : Un fs ex H H1 h h1) (b : Un fs ex H1 H2 h1 h2) : Un fs ex H H2 h h2 where
  keep := fun c ob q n hc hx => b.keep c ob (a.keep c ob q n hc hx) (a.free c ob q n hx) hc hx
  slot := fun c ob q n hc hx => by
    obtain ⟨sl, e1⟩ := a.slot c ob q n hc hx
    obtain ⟨sl', e2⟩ := b.slot c _ e1 (a.free c ob q n hx) hc hx
    exact ⟨sl', e2⟩
  free := fun c ob q n hx => by
    obtain ⟨o', e1⟩ := a.there c ob q hx
    exact b.free c o' e1 (a.free c ob q n hx) hx
  there := fun c ob q hx => by
    obtain ⟨o', e1⟩ := a.there c ob q hx
    exact b.there c o' e1 hx
  tups := fun c xs q => b.tups c xs (a.tups c xs q)
  frzs := fun c ob xs q => b.frzs c ob xs (a.frzs c ob xs q)
  tbls := fun c ps q => by
    obtain ⟨m1, e1⟩ := a.tbls c ps q
    obtain ⟨m2, e2⟩ := b.tbls c _ e1
    exact ⟨m1 ++ m2, by rw [e2, Array.append_assoc]⟩
theorem Un.kept (k : ∀ b u, h.get? b = some u → h'.get? b = some u) : Un fs ex H H h h' :=
  ⟨fun b ob q _ _ _ => k b ob q, fun b ob q _ _ _ => ⟨ob.slots, k b ob q⟩, fun _ _ _ n _ => n, fun b ob q _ => ⟨ob, k b ob q⟩, fun _ _ q => q, fun _ _ _ q => q, fun _ ps q => ⟨#[], by rw [q]; simp⟩⟩
theorem Un.refl : Un fs ex H H h h := Un.kept fun _ _ q => q
theorem Un.laid (k : ∀ b u, h.get? b = some u → h'.get? b = some u) (hp : h.objs.size ≤ a) (hn : H a = none) : Un fs ex H (upd H a o) h h' where
  keep := fun b u q _ _ _ => k b u q
  slot := fun b u q _ _ _ => ⟨u.slots, k b u q⟩
  free := fun b u q n _ => by rw [upd_ne (Nat.ne_of_lt (Nat.lt_of_lt_of_le (Heap.lt_size q) hp))]; exact n
  there := fun b u q _ => ⟨u, k b u q⟩
  tups := fun b xs q => by rw [upd_ne (ne_of_none q hn)]; exact q
  frzs := fun b u xs q => by rw [upd_ne (ne_of_none q hn)]; exact q
  tbls := fun b ps q => ⟨#[], by rw [upd_ne (ne_of_none q hn), q]; simp⟩
theorem Un.write (mu : Mut (H x)) (he : e = x ∨ H e = some (.own x)) (k : ∀ b u, b ≠ e → h.get? b = some u → h'.get? b = some u) (heo : ∃ u, h'.get? e = some u) : Un fs ex H (upd H x o) h h' := by
  have hx : ∀ b, H b = none → b ≠ x := fun b n z => by subst z; rw [n] at mu; exact mu
  have hb : ∀ b, H b = none → b ≠ e := fun b n z => by
    subst z
    rcases he with r | r
    · exact hx b n r
    · rw [n] at r; cases r
  have hm : ∀ b u, H b = some u → ¬ Mut (some u) → b ≠ x := fun b u q nm z => by subst z; rw [q] at mu; exact nm mu
  refine ⟨fun b u q n _ _ => k b u (hb b n) q, fun b u q n _ _ => ⟨u.slots, k b u (hb b n) q⟩, fun b u q n _ => by rw [upd_ne (hx b n)]; exact n, fun b u q _ => ?_,
    fun b xs q => by rw [upd_ne (hm b _ q fun z => z)]; exact q, fun b u xs q => by rw [upd_ne (hm b _ q fun z => z)]; exact q, fun b ps q => ⟨#[], by rw [upd_ne (hm b _ q fun z => z), q]; simp⟩⟩
  by_cases hbe : b = e
  · subst hbe; exact heo
  · exact ⟨u, k b u hbe q⟩
theorem Un.mono (u : Un fs ex H H1 h h1) (hs : ∀ b ∈ fs, b ∈ fs') (hx : ∀ b ∈ ex, b ∈ ex') : Un fs' ex' H H1 h h1 :=
  ⟨fun b ob q n hb he => u.keep b ob q n (fun z => hb (hs b z)) fun z => he (hx b z), fun _ _ q n _ he => u.any q n fun z => he (hx _ z), fun b ob q n he => u.free b ob q n fun z => he (hx b z), fun b ob q he => u.there b ob q fun z => he (hx b z), u.tups, u.frzs, u.tbls⟩
end

/-! ### the heap without what is tracked -/
def trk (h : Heap) (H : Hp) : List Addr := (List.range h.objs.size).filter fun a => (H a).isSome
def hidT (h : Heap) (H : Hp) : Heap := PySem.W.hideAll h (trk h H)
theorem hidT_size (h : Heap) (H : Hp) : (hidT h H).objs.size = h.objs.size := PySem.W.hideAll_size _ _
theorem hidT_get {h : Heap} {H : Hp} {b : Addr} {o : Obj} (e : h.get? b = some o) (n : H b = none) : (hidT h H).get? b = some o :=
  PySem.W.hideAll_get _ e fun hm => by
    have q : (H b).isSome = true := (List.mem_filter.mp hm).2
    rw [n] at q; simp at q
theorem of_hidT {h : Heap} {H : Hp} {b : Addr} {o : Obj} (e : (hidT h H).get? b = some o) : h.get? b = some o ∧ H b = none := by
  have e' : h.get? b = some o := PySem.W.of_hideAll (trk h H) e
  refine ⟨e', ?_⟩
  cases q : H b with
  | none => rfl
  | some x =>
    have hm : b ∈ trk h H := List.mem_filter.mpr ⟨List.mem_range.mpr (Heap.lt_size e'), by simp [q]⟩
    have z : (hidT h H).get? b = none := PySem.W.hideAll_none (trk h H) hm
    rw [z] at e; cases e

/-! ### OpenK's ledger, filled with every new object but one -/
def allNews (g h : Heap) (L : Addr) : List (Addr × Obj) := (List.range h.objs.size).filterMap fun a => if a = L ∨ (g.get? a).isSome = true then none else (h.get? a).map fun o => (a, o)
def rest (g h : Heap) (L d : Addr) : List (Addr × Obj) := (allNews g h L).filter fun p => decide (p.1 ≠ d)
end L2

namespace L2
open PySem PySem.Spec PyProof.Rows

/-- the module's facts, over the base: the heap at the law's entry without what is tracked there -/
structure Mod (K : PySem.W.Frag) (mg : Str → Option Value) (base : Heap) : Prop where
  kin : K.In base
  glob : base.Ns mainGlobals mg
  blt : ∃ mb, base.Ns builtinsNs mb ∧ ∀ x : Str, x ≠ "__name__" → mb x = bootBuiltins x
  nolimit : base.NoLimit

/-- the context: a def's body (or a comprehension's block) running. base: fixed through the whole law; s₀, H₀: the entry; outer: the frames whose slots others may change (a def's callers); stack: all frames that run;
   ex: iterators that were made ahead of the entry and are walked here (a comprehension's); fn: the names whose cells were made at the entry (a def: all; a comprehension's block: its own); calm: not within an except suite; pn: pins that every state bears; xe: what is wanted of an exception that leaves the code -/
structure Cx where
  prog : Program
  w : World
  K : PySem.W.Frag
  mg : Str → Option Value
  base : Heap
  A : Around
  N : List Str
  s_0 : Shared
  H_0 : Hp
  env : Env
  outer : List Env
  stack : List Env
  ex : List Addr
  fn : Str → Bool
  calm : Bool
  pn : List (Addr × Obj)
  xe : Value → Shared → Prop
/-- the callers' frames -/
def frs (l : List Env) : List Addr := l.filterMap (·.frame)
abbrev Cx.fs (X : Cx) : List Addr := frs X.outer

def Vis (sc : Scope) (x : Str) : Prop := sc.names.lookup x = some .local ∨ sc.names.lookup x = some .cell ∨ sc.names.lookup x = some .free
def Loc (sc : Scope) (x : Str) : Prop := sc.names.lookup x = some .local ∨ sc.names.lookup x = some .cell
def Look (env : Env) (h : Heap) (m : Str → Option Value) (x : Str) (u : Value) : Prop :=
  (env.kindOf x = some .local ∧ m x = some u) ∨ ((env.kindOf x = some .cell ∨ env.kindOf x = some .free) ∧ ∃ c, env.cells.lookup x = some c ∧ h.IsCell c (some u))

structure Cx.Ok (X : Cx) : Prop where
  mod : Mod X.K X.mg X.base
  kind : X.env.scope.kind = .function
  glob : X.env.globals = mainGlobals
  blt : X.env.builtins = builtinsNs
  above : X.s_0.heap.objs.size ≤ X.env.locals
  inj : ∀ x y c, X.env.cells.lookup x = some c → X.env.cells.lookup y = some c → x = y
  has : ∀ x, (X.env.kindOf x = some .cell ∨ X.env.kindOf x = some .free) → ∃ c, X.env.cells.lookup x = some c
  cab : ∀ x c, X.fn x = true → X.env.cells.lookup x = some c → X.s_0.heap.objs.size ≤ c
  hd : X.calm = true → X.A.handled = none
  frames : X.A.frames = some X.stack
  stk : X.stack = X.outer ∨ (X.stack = X.env :: X.outer ∧ X.env.frame = some X.env.locals)
  exf : ∀ b ∈ X.ex, b ≠ X.env.locals ∧ ∀ x c, X.env.cells.lookup x = some c → c ≠ b
  bs : ∀ b o, X.base.get? b = some o → X.s_0.heap.get? b = some o ∧ X.H_0 b = none
  bsz : X.base.objs.size ≤ X.s_0.heap.objs.size
  noex : ∀ b o, X.base.get? b = some o → b ∉ X.ex
  exfs : ∀ b ∈ X.ex, b ∉ X.fs
  funs : X.s_0.heap.FunFrames X.base X.outer
  frf : ∀ b ∈ X.fs, X.H_0 b = none

structure Inv (X : Cx) (pins : List (Addr × Obj)) (σ : List (Option V)) (H : Hp) (s : Shared) : Prop where
  ok : X.Ok
  os : s.os = X.s_0.os
  bare : AllBare s.gens
  base : Un X.fs X.ex X.H_0 H X.s_0.heap s.heap
  loc : ∃ m, s.heap.Ns X.env.locals m ∧ ∀ (i : Nat) (x : Str) (v : V), X.N[i]? = some x → σ[i]? = some (some v) → Vis X.env.scope x → ∃ u, RelV v u ∧ Look X.env s.heap m x u
  cell : ∀ x c, X.env.cells.lookup x = some c → ∃ v, s.heap.IsCell c v
  free : H X.env.locals = none
  freeC : ∀ x c, X.env.cells.lookup x = some c → H c = none
  pin : ∀ p ∈ X.pn ++ pins, s.heap.get? p.1 = some p.2 ∧ H p.1 = none ∧ p.1 ≠ X.env.locals ∧ p.1 ∉ X.fs ∧ ∀ v, p.2.data ≠ .cell v
  hok : HOk X.prog X.w H s.heap
  len : σ.length = X.N.length

section
variable {X : Cx} {pins : List (Addr × Obj)} {σ : List (Option V)} {H H' : Hp} {s : Shared} {h' : Heap}

theorem Cx.Ok.nofr (ok : X.Ok) {b : Addr} {o : Obj} (e : X.base.get? b = some o) : b ∉ X.fs := fun hb => by
  have := (ok.funs.mem hb).1
  rw [e] at this; cases this
theorem Inv.bs (I : Inv X pins σ H s) : ∀ b o, X.base.get? b = some o → s.heap.get? b = some o ∧ H b = none := fun b o e =>
  ⟨I.base.keep b o (I.ok.bs b o e).1 (I.ok.bs b o e).2 (I.ok.nofr e) (I.ok.noex b o e), I.base.free b o (I.ok.bs b o e).1 (I.ok.bs b o e).2 (I.ok.noex b o e)⟩
theorem Inv.bk (I : Inv X pins σ H s) : ∀ b o, X.base.get? b = some o → s.heap.get? b = some o := fun b o e => (I.bs b o e).1
theorem Inv.mod (I : Inv X pins σ H s) : Mod X.K X.mg X.base := I.ok.mod
theorem Inv.kIn (I : Inv X pins σ H s) : X.K.In s.heap := I.ok.mod.kin.keeps I.bk
theorem Inv.nolimit (I : Inv X pins σ H s) : s.heap.NoLimit := I.ok.mod.nolimit.keeps I.bk
theorem Inv.lt (I : Inv X pins σ H s) : X.env.locals < s.heap.objs.size := let ⟨_, hn, _⟩ := I.loc; hn.lt
theorem Inv.sz (I : Inv X pins σ H s) : X.s_0.heap.objs.size ≤ s.heap.objs.size := Nat.le_trans I.ok.above (Nat.le_of_lt I.lt)
theorem Inv.nofs (I : Inv X pins σ H s) {a : Addr} (h : s.heap.objs.size ≤ a) : a ∉ X.fs := fun hb => by
  obtain ⟨_, o, ho, _⟩ := I.ok.funs.mem hb
  exact absurd (Nat.lt_of_lt_of_le (Heap.lt_size ho) (Nat.le_trans I.sz h)) (Nat.lt_irrefl _)
theorem Inv.cne (I : Inv X pins σ H s) : ∀ x c, X.env.cells.lookup x = some c → c ≠ X.env.locals := fun x c e z => by
  obtain ⟨v, o, ho, hd⟩ := I.cell x c e
  obtain ⟨m, ⟨o', es, ep, ho', hd', _⟩, _⟩ := I.loc
  rw [z, ho'] at ho; cases ho; rw [hd'] at hd; cases hd
theorem Inv.funs (I : Inv X pins σ H s) : s.heap.FunFrames X.base X.outer := by
  have all : ∀ (l : List Env), (∀ b ∈ frs l, b ∈ X.fs) → X.s_0.heap.FunFrames X.base l → s.heap.FunFrames X.base l := by
    intro l
    induction l with
    | nil => intro _ _; trivial
    | cons env r ih =>
      intro hs hl
      obtain ⟨hk, ⟨L, o, hf, hn, ho, hd⟩, hr⟩ := hl
      have hL : L ∈ X.fs := hs L (by unfold frs; rw [List.filterMap_cons, hf]; exact List.mem_cons_self)
      obtain ⟨sl, e⟩ := I.base.slot L o ho (I.ok.frf L hL) hL fun z => I.ok.exfs L z hL
      exact ⟨hk, ⟨L, _, hf, hn, e, hd⟩, ih (fun b hb => hs b (by unfold frs; rw [List.filterMap_cons, hf]; exact List.mem_cons_of_mem _ hb)) hr⟩
  exact all X.outer (fun _ hb => hb) I.ok.funs

/-- the frames that run, for a call -/
theorem Inv.stack (I : Inv X pins σ H s) : s.heap.FunFrames X.base X.stack := by
  rcases I.ok.stk with e | ⟨e, hf⟩
  · rw [e]; exact I.funs
  · rw [e]
    obtain ⟨m, hn, _⟩ := I.loc
    refine .cons (by rw [I.ok.kind]; decide) hf hn ?_ I.funs
    exact Heap.get?_none_of_le (Nat.le_trans I.ok.bsz I.ok.above)
theorem Inv.stkSub (I : Inv X pins σ H s) : ∀ b ∈ frs X.stack, b ∈ X.env.locals :: X.fs := fun b hb => by
  rcases I.ok.stk with e | ⟨e, hf⟩
  · rw [e] at hb; exact List.mem_cons_of_mem _ hb
  · rw [e] at hb
    unfold frs at hb
    rw [List.filterMap_cons, hf] at hb
    exact hb
theorem Inv.stkFree (I : Inv X pins σ H s) : ∀ b ∈ frs X.stack, H b = none := fun b hb => by
  rcases List.mem_cons.mp (I.stkSub b hb) with e | hb
  · rw [e]; exact I.free
  · obtain ⟨_, o, ho, _⟩ := I.ok.funs.mem hb
    exact I.base.free b o ho (I.ok.frf b hb) fun z => I.ok.exfs b z hb

/-- THE STEP: the untracked objects but the frame and the records at ch are kept (the callers' frames up to slots), the frame's map is kept, the new abstract heap is held -/
theorem Inv.step {g' : Array GenState} {t' : Nat} {d' : Drawn} {ch : List Addr} (I : Inv X pins σ H s)
    (hch : ∀ b ∈ ch, (b ∈ X.ex ∨ X.s_0.heap.objs.size ≤ b) ∧ b ≠ X.env.locals ∧ (∀ x c, X.env.cells.lookup x = some c → c ≠ b) ∧ ∀ p ∈ X.pn ++ pins, p.1 ≠ b)
    (keep : ∀ b o, b ≠ X.env.locals → b ∉ X.fs → b ∉ ch → s.heap.get? b = some o → H b = none → h'.get? b = some o)
    (slot : ∀ b o, b ≠ X.env.locals → b ∈ X.fs → b ∉ ch → s.heap.get? b = some o → H b = none → ∃ sl, h'.get? b = some { o with slots := sl }) (free : ∀ b o, b ∉ ch → s.heap.get? b = some o → H b = none → H' b = none)
    (there : ∀ b o, b ∉ ch → s.heap.get? b = some o → ∃ o', h'.get? b = some o')
    (tups : ∀ b xs, H b = some (.tup xs) → H' b = some (.tup xs)) (frzs : ∀ b o u, H b = some (.frz o u) → H' b = some (.frz o u)) (tbls : ∀ b ps, H b = some (.tbl ps) → ∃ more, H' b = some (.tbl (ps ++ more)))
    (ns : ∀ m, s.heap.Ns X.env.locals m → h'.Ns X.env.locals m) (hok : HOk X.prog X.w H' h') (hg : AllBare g') :
    Inv X pins σ H' { s with heap := h', gens := g', drawn := d', toks := t' } := by
  have neL : ∀ b o, X.s_0.heap.get? b = some o → b ≠ X.env.locals := fun b o e => Nat.ne_of_lt (Nat.lt_of_lt_of_le (Heap.lt_size e) I.ok.above)
  have neC : ∀ b o, X.s_0.heap.get? b = some o → b ∉ X.ex → b ∉ ch := fun b o e hx hb => by
    rcases (hch b hb).1 with z | z
    · exact hx z
    · exact absurd (Nat.lt_of_lt_of_le (Heap.lt_size e) z) (Nat.lt_irrefl _)
  have cellK : ∀ x c, X.env.cells.lookup x = some c → ∀ v, s.heap.IsCell c v → h'.IsCell c v := fun x c e v ⟨o, ho, hd⟩ => by
    have nch : c ∉ ch := fun z => (hch c z).2.2.1 x c e rfl
    by_cases hc : c ∈ X.fs
    · obtain ⟨sl, q⟩ := slot c o (I.cne x c e) hc nch ho (I.freeC x c e)
      exact ⟨_, q, hd⟩
    · exact ⟨o, keep c o (I.cne x c e) hc nch ho (I.freeC x c e), hd⟩
  refine ⟨I.ok, I.os, hg, ⟨fun b o e n hb hx => ?_, fun b o e n hb hx => ?_, fun b o e n hx => ?_, fun b o e hx => ?_, fun b xs e => tups b xs (I.base.tups b xs e), fun b o xs e => frzs b o xs (I.base.frzs b o xs e), fun b ps e => ?_⟩, ?_, fun x c e => ?_, ?_, fun x c e => ?_, fun p hp => ?_, hok, I.len⟩
  · exact keep b o (neL b o e) hb (neC b o e hx) (I.base.keep b o e n hb hx) (I.base.free b o e n hx)
  · obtain ⟨sl, e1⟩ := I.base.slot b o e n hb hx
    obtain ⟨sl', e2⟩ := slot b _ (neL b o e) hb (neC b o e hx) e1 (I.base.free b o e n hx)
    exact ⟨sl', e2⟩
  · obtain ⟨o', e1⟩ := I.base.there b o e hx
    exact free b o' (neC b o e hx) e1 (I.base.free b o e n hx)
  · obtain ⟨o', e1⟩ := I.base.there b o e hx
    exact there b o' (neC b o e hx) e1
  · obtain ⟨m1, e1⟩ := I.base.tbls b ps e
    obtain ⟨m2, e2⟩ := tbls b _ e1
    exact ⟨m1 ++ m2, by rw [e2, Array.append_assoc]⟩
  · obtain ⟨m, hn, hl⟩ := I.loc
    refine ⟨m, ns m hn, fun i x v e1 e2 e3 => ?_⟩
    obtain ⟨u, r, l⟩ := hl i x v e1 e2 e3
    refine ⟨u, r, ?_⟩
    rcases l with l | ⟨k, c, e, z⟩
    · exact .inl l
    · exact .inr ⟨k, c, e, cellK x c e _ z⟩
  · obtain ⟨v, z⟩ := I.cell x c e
    exact ⟨v, cellK x c e v z⟩
  · obtain ⟨m, ⟨o, _, _, ho, _⟩, _⟩ := I.loc
    exact free _ o (fun z => (hch _ z).2.1 rfl) ho I.free
  · obtain ⟨v, o, ho, hd⟩ := I.cell x c e
    exact free c o (fun z => (hch c z).2.2.1 x c e rfl) ho (I.freeC x c e)
  · obtain ⟨e, n, ne, nf, d⟩ := I.pin p hp
    have nch : p.1 ∉ ch := fun z => (hch p.1 z).2.2.2 p hp rfl
    exact ⟨keep p.1 p.2 ne nf nch e n, free p.1 p.2 nch e n, ne, nf, d⟩
/-- .. where the frame's own object is kept too -/
theorem Inv.un {t' : Nat} (I : Inv X pins σ H s) (u : Un X.fs [] H H' s.heap h') (hok : HOk X.prog X.w H' h') : Inv X pins σ H' { s with heap := h', toks := t' } := by
  obtain ⟨m, ⟨o, es, ep, ho, r⟩, _⟩ := id I.loc
  obtain ⟨sl, hL⟩ := u.any ho I.free (by simp)
  exact I.step (g' := s.gens) (d' := s.drawn) (ch := []) (fun _ z => nomatch z) (fun b o _ hb _ e n => u.keep b o e n hb (by simp)) (fun b o _ hb _ e n => u.slot b o e n hb (by simp)) (fun b o _ e n => u.free b o e n (by simp)) (fun b o _ e => u.there b o e (by simp)) u.tups u.frzs u.tbls (fun m' hm => by
    obtain ⟨o', es', ep', ho', r'⟩ := hm
    rw [ho] at ho'; cases ho'
    exact ⟨_, es', ep', hL, r'⟩) hok I.bare
/-- behind a call (or a comprehension's block): the slots of this frame may have changed too, the records at ch may have turned -/
theorem Inv.call {g' : Array GenState} {t' : Nat} {d' : Drawn} {ch : List Addr} (I : Inv X pins σ H s) (u : Un (frs X.stack) ch H H' s.heap h') (hok : HOk X.prog X.w H' h') (hg : AllBare g')
    (hch : ∀ b ∈ ch, (b ∈ X.ex ∨ X.s_0.heap.objs.size ≤ b) ∧ b ≠ X.env.locals ∧ (∀ x c, X.env.cells.lookup x = some c → c ≠ b) ∧ ∀ p ∈ X.pn ++ pins, p.1 ≠ b) :
    Inv X pins σ H' { s with heap := h', gens := g', drawn := d', toks := t' } := by
  obtain ⟨m, ⟨o, es, ep, ho, r⟩, _⟩ := id I.loc
  obtain ⟨sl, hL⟩ := u.any ho I.free fun z => (hch _ z).2.1 rfl
  exact I.step (ch := ch) hch (fun b o hL hb hc e n => u.keep b o e n (fun z => (List.mem_cons.mp (I.stkSub b z)).elim hL hb) hc) (fun b o _ _ hc e n => u.any e n hc) (fun b o hc e n => u.free b o e n hc) (fun b o hc e => u.there b o e hc) u.tups u.frzs u.tbls (fun m' hm => by
    obtain ⟨o', es', ep', ho', r'⟩ := hm
    rw [ho] at ho'; cases ho'
    exact ⟨_, es', ep', hL, r'⟩) hok hg
/-- an untracked record of ours (an iterator) has turned -/
theorem Inv.turned {t' : Nat} {it : Addr} (I : Inv X pins σ H s) (k : ∀ b o, b ≠ it → s.heap.get? b = some o → h'.get? b = some o) (hn : H it = none) (hL : it ≠ X.env.locals)
    (h1 : it ∈ X.ex ∨ X.s_0.heap.objs.size ≤ it) (h2 : ∀ x c, X.env.cells.lookup x = some c → c ≠ it) (h3 : ∀ p ∈ X.pn ++ pins, p.1 ≠ it) : Inv X pins σ H { s with heap := h', toks := t' } := by
  have nit : ∀ b u, H b = some u → b ≠ it := fun b u e z => by rw [z, hn] at e; cases e
  refine I.step (g' := s.gens) (d' := s.drawn) (ch := [it]) (fun b hb => ?_) (fun b o _ _ hc e _ => k b o (fun z => hc (by simp [z])) e) (fun b o _ _ hc e _ => ⟨o.slots, k b o (fun z => hc (by simp [z])) e⟩) (fun _ _ _ _ n => n)
    (fun b o hc e => ⟨o, k b o (fun z => hc (by simp [z])) e⟩) (fun _ _ e => e) (fun _ _ _ e => e) (fun b ps e => ⟨#[], by rw [e]; simp⟩) (fun m hm => ?_) (fun b u e => ?_) I.bare
  · have e : b = it := by simpa using hb
    subst e
    exact ⟨h1, hL, h2, h3⟩
  · obtain ⟨o, es, ep, ho, r⟩ := hm
    exact ⟨o, es, ep, k _ o (Ne.symm hL) ho, r⟩
  · refine (I.hok b u e).stay (fun c v hc q => k c v ?_ q) (fun _ q => q) fun _ _ q => q
    rcases hc with z | z
    · rw [z]; exact nit b u e
    · exact nit c _ z
theorem Inv.tok (I : Inv X pins σ H s) (t : Nat) : Inv X pins σ H { s with toks := t } := I.un (h' := s.heap) (t' := t) Un.refl I.hok
/-- all objects kept -/
theorem Inv.kept {t' : Nat} (I : Inv X pins σ H s) (k : ∀ b u, s.heap.get? b = some u → h'.get? b = some u) : Inv X pins σ H { s with heap := h', toks := t' } := I.un (Un.kept k) (I.hok.kept k)
/-- a new object laid and tracked -/
theorem Inv.laid {a : Addr} {o : HO} {t' : Nat} (I : Inv X pins σ H s) (k : ∀ b u, s.heap.get? b = some u → h'.get? b = some u) (hp : s.heap.objs.size ≤ a) (new : ObjOk X.prog X.w (upd H a o) h' a o) :
    Inv X pins σ (upd H a o) { s with heap := h', toks := t' } := I.un (Un.laid k hp (I.hok.fresh hp)) (I.hok.laid k hp new)
/-- an object written -/
theorem Inv.write {x e : Addr} {o : HO} {t' : Nat} (I : Inv X pins σ H s) (mu : Mut (H x)) (he : e = x ∨ H e = some (.own x)) (k : ∀ b u, b ≠ e → s.heap.get? b = some u → h'.get? b = some u) (heo : ∃ u, h'.get? e = some u)
    (new : ObjOk X.prog X.w (upd H x o) h' x o) : Inv X pins σ (upd H x o) { s with heap := h', toks := t' } := I.un (Un.write mu he k heo) (I.hok.write mu he k heo new)
/-- forgetting slots, pins -/
theorem Inv.weak {σ' : List (Option V)} (I : Inv X pins σ H s) (hl : σ'.length = σ.length) (w : ∀ (i : Nat) v, σ'[i]? = some (some v) → σ[i]? = some (some v)) : Inv X pins σ' H s :=
  ⟨I.ok, I.os, I.bare, I.base, let ⟨m, hn, hl'⟩ := I.loc; ⟨m, hn, fun i x v e1 e2 e3 => hl' i x v e1 (w i v e2) e3⟩, I.cell, I.free, I.freeC, I.pin, I.hok, hl.trans I.len⟩
theorem Inv.pins_of {pins' : List (Addr × Obj)} (I : Inv X pins σ H s) (h : ∀ p ∈ pins', s.heap.get? p.1 = some p.2 ∧ H p.1 = none ∧ p.1 ≠ X.env.locals ∧ p.1 ∉ X.fs ∧ ∀ v, p.2.data ≠ .cell v) : Inv X pins' σ H s :=
  ⟨I.ok, I.os, I.bare, I.base, I.loc, I.cell, I.free, I.freeC, fun p hp => (List.mem_append.mp hp).elim (fun z => I.pin p (List.mem_append_left _ z)) (h p), I.hok, I.len⟩

theorem nodup_ix {N : List Str} (hN : N.Nodup) {i j : Nat} {x : Str} (a : N[i]? = some x) (b : N[j]? = some x) : i = j := by
  obtain ⟨h1, e1⟩ := List.getElem?_eq_some_iff.mp a
  obtain ⟨h2, e2⟩ := List.getElem?_eq_some_iff.mp b
  exact (List.getElem_inj hN).mp (e1.trans e2.symm)

/-- a name is stored; what changed -/
theorem store_ok2 {M : Model} {A : Around} {E : Value → Shared → Prop} {i : Nat} {x : Str} {v : V} {u : Value} {Q : Unit → Shared → Prop} (I : Inv X pins σ H s) (hN : X.N.Nodup) (hi : X.N[i]? = some x) (hx : Loc X.env.scope x) (r : RelV v u)
    (h : ∀ s', Inv X pins (σ.set i (some v)) H s' → (∃ a, Heap.SameBut a s.heap s'.heap ∧ (a = X.env.locals ∨ X.env.cells.lookup x = some a)) → Q () s') (hf : X.fn x = true ∨ X.env.scope.names.lookup x = some .local := by first | exact .inl rfl | exact .inr rfl | assumption) : wpAny M A (storeName X.env x u) Q E s := by
  obtain ⟨m, hn, hl⟩ := id I.loc
  have hcls : (X.env.scope.kind == .class || (X.env.scope.kind == .module && X.env.locals != X.env.globals)) = false := by rw [I.ok.kind]; rfl
  have hiσ : i < σ.length := by rw [I.len]; exact (List.getElem?_eq_some_iff.mp hi).1
  have cne := I.cne
  have tracked : ∀ {a : Addr} {h' : Heap}, (∃ o, s.heap.get? a = some o ∧ H a = none) → Heap.SameBut a s.heap h' → HOk X.prog X.w H h' := fun {a h'} ha hs b ob e => by
    obtain ⟨_, _, hfree⟩ := ha
    refine (I.hok b ob e).stay (fun c w' hc q => (hs.2 c ?_).trans q) (fun _ q => q) fun _ _ q => q
    rintro rfl
    rcases hc with rfl | hc
    · rw [hfree] at e; cases e
    · rw [hfree] at hc; cases hc
  rcases hx with hk | hk
  · refine wpAny_storeName_local hk hn (fun h' hn' hs => ?_) hcls
    obtain ⟨oL, _, _, hoL, _⟩ := id hn
    refine h _ ⟨I.ok, I.os, I.bare, ⟨fun b o e n hb hx => ?_, fun b o e n hb hx => ?_, I.base.free, fun b o e hx => ?_, I.base.tups, I.base.frzs, I.base.tbls⟩, ⟨_, hn', fun j y v' e1 e2 e3 => ?_⟩, fun y c e => ?_, I.free, I.freeC, fun p hp => ?_, tracked ⟨oL, hoL, I.free⟩ hs, by simpa using I.len⟩ ⟨_, hs, .inl rfl⟩
    · exact (hs.2 b (Nat.ne_of_lt (Nat.lt_of_lt_of_le (Heap.lt_size e) I.ok.above))).trans (I.base.keep b o e n hb hx)
    · obtain ⟨sl, e1⟩ := I.base.slot b o e n hb hx
      exact ⟨sl, (hs.2 b (Nat.ne_of_lt (Nat.lt_of_lt_of_le (Heap.lt_size e) I.ok.above))).trans e1⟩
    · obtain ⟨o', e1⟩ := I.base.there b o e hx
      exact ⟨o', (hs.2 b (Nat.ne_of_lt (Nat.lt_of_lt_of_le (Heap.lt_size e) I.ok.above))).trans e1⟩
    · by_cases hj : j = i
      · subst hj
        rw [hi] at e1; cases e1
        rw [List.getElem?_set_self hiσ] at e2
        cases e2
        exact ⟨u, r, .inl ⟨hk, by simp⟩⟩
      · rw [List.getElem?_set_ne (Ne.symm hj)] at e2
        obtain ⟨u', r', q⟩ := hl j y v' e1 e2 e3
        refine ⟨u', r', ?_⟩
        rcases q with ⟨k, e⟩ | ⟨k, c, e, z⟩
        · refine .inl ⟨k, ?_⟩
          have : y ≠ x := fun e => hj (nodup_ix hN e1 (e ▸ hi))
          simp [this, e]
        · exact .inr ⟨k, c, e, z.sameBut hs (cne y c e)⟩
    · obtain ⟨w', z⟩ := I.cell y c e
      exact ⟨w', z.sameBut hs (cne y c e)⟩
    · obtain ⟨e, n, ne, nf, d⟩ := I.pin p hp
      exact ⟨(hs.2 p.1 ne).trans e, n, ne, nf, d⟩
  · have hfn : X.fn x = true := by
      rcases hf with z | z
      · exact z
      · rw [z] at hk; cases hk
    obtain ⟨c, hc⟩ := I.ok.has x (.inl hk)
    obtain ⟨w', z⟩ := I.cell x c hc
    refine wpAny_storeName_cell I.ok.kind hk hc z (fun h' hc' hs => ?_)
    obtain ⟨oc, hoc, hocd⟩ := id z
    refine h { s with heap := h' } ⟨I.ok, I.os, I.bare, ⟨fun b o e n hb hx => ?_, fun b o e n hb hx => ?_, I.base.free, fun b o e hx => ?_, I.base.tups, I.base.frzs, I.base.tbls⟩, ⟨m, hn.sameBut hs (Ne.symm (cne x c hc)), fun j y v' e1 e2 e3 => ?_⟩, fun y c' e => ?_, I.free, I.freeC, fun p hp => ?_, tracked ⟨oc, hoc, I.freeC x c hc⟩ hs, by simpa using I.len⟩ ⟨c, hs, .inr hc⟩
    · exact (hs.2 b (Nat.ne_of_lt (Nat.lt_of_lt_of_le (Heap.lt_size e) (I.ok.cab x c hfn hc)))).trans (I.base.keep b o e n hb hx)
    · obtain ⟨sl, e1⟩ := I.base.slot b o e n hb hx
      exact ⟨sl, (hs.2 b (Nat.ne_of_lt (Nat.lt_of_lt_of_le (Heap.lt_size e) (I.ok.cab x c hfn hc)))).trans e1⟩
    · obtain ⟨o', e1⟩ := I.base.there b o e hx
      exact ⟨o', (hs.2 b (Nat.ne_of_lt (Nat.lt_of_lt_of_le (Heap.lt_size e) (I.ok.cab x c hfn hc)))).trans e1⟩
    · by_cases hj : j = i
      · subst hj
        rw [hi] at e1; cases e1
        rw [List.getElem?_set_self hiσ] at e2
        cases e2
        exact ⟨u, r, .inr ⟨.inl hk, c, hc, hc'⟩⟩
      · rw [List.getElem?_set_ne (Ne.symm hj)] at e2
        obtain ⟨u', r', q⟩ := hl j y v' e1 e2 e3
        refine ⟨u', r', ?_⟩
        rcases q with q | ⟨k, c', e, z'⟩
        · exact .inl q
        · refine .inr ⟨k, c', e, z'.sameBut hs ?_⟩
          rintro rfl
          exact hj (nodup_ix hN e1 (I.ok.inj _ _ _ e hc ▸ hi))
    · by_cases hcc : c' = c
      · subst hcc; exact ⟨_, hc'⟩
      · obtain ⟨w2, z2⟩ := I.cell y c' e
        exact ⟨w2, z2.sameBut hs hcc⟩
    · obtain ⟨e, n, ne, nf, d⟩ := I.pin p hp
      refine ⟨(hs.2 p.1 ?_).trans e, n, ne, nf, d⟩
      intro q
      rw [q, hoc] at e
      have q' : oc = p.2 := Option.some.inj e
      exact d w' (by rw [← q']; exact hocd)
theorem store_ok {M : Model} {A : Around} {E : Value → Shared → Prop} {i : Nat} {x : Str} {v : V} {u : Value} {Q : Unit → Shared → Prop} (I : Inv X pins σ H s) (hN : X.N.Nodup) (hi : X.N[i]? = some x) (hx : Loc X.env.scope x) (r : RelV v u)
    (h : ∀ s', Inv X pins (σ.set i (some v)) H s' → Q () s') (hf : X.fn x = true ∨ X.env.scope.names.lookup x = some .local := by first | exact .inl rfl | exact .inr rfl | assumption) : wpAny M A (storeName X.env x u) Q E s :=
  store_ok2 I hN hi hx r (fun s' I' _ => h s' I') hf
/-- behind a call or a block, the state as it is -/
theorem Inv.call' {s' : Shared} {ch : List Addr} (I : Inv X pins σ H s) (ho : s'.os = s.os) (u : Un (frs X.stack) ch H H' s.heap s'.heap) (hok : HOk X.prog X.w H' s'.heap) (hg : AllBare s'.gens)
    (hch : ∀ b ∈ ch, (b ∈ X.ex ∨ X.s_0.heap.objs.size ≤ b) ∧ b ≠ X.env.locals ∧ (∀ x c, X.env.cells.lookup x = some c → c ≠ b) ∧ ∀ p ∈ X.pn ++ pins, p.1 ≠ b) : Inv X pins σ H' s' := by
  obtain ⟨h', g', d', t', o'⟩ := s'
  have e : o' = s.os := ho
  subst e
  exact I.call (g' := g') (t' := t') (d' := d') u hok hg hch
end

/-! ### the judgements -/
/-- an exception: its class, its own dict's address (where it has one), the abstract heap behind it -/
abbrev XK := Value → Option Addr → Hp → Prop
abbrev St := List (Option V)
abbrev VK := V → Hp → Prop
/-- an expression's reading; a test's; an argument list's -/
abbrev TE := St → Hp → VK → Prop
abbrev TT := St → Hp → (Bool → Hp → Prop) → Prop
abbrev TA := St → Hp → (List V → Hp → Prop) → Prop
/-- what is wanted behind a statement -/
structure Ends where
  nx : St → Hp → Prop
  rt : VK
  bk : St → Hp → Prop := fun _ _ => False
  ct : St → Hp → Prop := fun _ _ => False
abbrev TS := Ends → St → Hp → Prop

def EP (X : Cx) (pins : List (Addr × Obj)) (σ : St) (Q : VK) (u : Value) (s' : Shared) : Prop := ∃ v H', Inv X pins σ H' s' ∧ RelV v u ∧ Q v H'
def TP (X : Cx) (pins : List (Addr × Obj)) (σ : St) (Q : Bool → Hp → Prop) (b : Bool) (s' : Shared) : Prop := ∃ H', Inv X pins σ H' s' ∧ Q b H'
def AP (X : Cx) (pins : List (Addr × Obj)) (σ : St) (Q : List V → Hp → Prop) (us : List Value) (s' : Shared) : Prop := ∃ vs H', Inv X pins σ H' s' ∧ Vals vs us ∧ Q vs H'
def SP (X : Cx) (pins : List (Addr × Obj)) (D : Ends) (f : Flow) (s' : Shared) : Prop :=
  match f with
  | .next => ∃ σ' H', Inv X pins σ' H' s' ∧ D.nx σ' H'
  | .brk => ∃ σ' H', Inv X pins σ' H' s' ∧ D.bk σ' H'
  | .cont => ∃ σ' H', Inv X pins σ' H' s' ∧ D.ct σ' H'
  | .ret u => ∃ v σ' H', Inv X pins σ' H' s' ∧ RelV v u ∧ D.rt v H'

def PE (X : Cx) (e : Expr) (t : TE) : Prop :=
  ∀ (pins : List (Addr × Obj)) (s : Shared) (σ : St) (H : Hp) (Q : VK), Inv X pins σ H s → t σ H Q → wpAny (model X.prog X.w) X.A (eval e X.env) (EP X pins σ Q) X.xe s
def PT (X : Cx) (e : Expr) (t : TT) : Prop :=
  ∀ (pins : List (Addr × Obj)) (s : Shared) (σ : St) (H : Hp) (Q : Bool → Hp → Prop), Inv X pins σ H s → t σ H Q → wpAny (model X.prog X.w) X.A (isTrue e X.env (eval e X.env)) (TP X pins σ Q) X.xe s
/-- a test whatever its 'whole' is (and, or) -/
def PW (X : Cx) (e : Expr) (t : TT) : Prop :=
  ∀ (whole : Sem Value) (pins : List (Addr × Obj)) (s : Shared) (σ : St) (H : Hp) (Q : Bool → Hp → Prop), Inv X pins σ H s → t σ H Q → wpAny (model X.prog X.w) X.A (isTrue e X.env whole) (TP X pins σ Q) X.xe s
theorem PW.pt {X : Cx} {e : Expr} {t : TT} (h : PW X e t) : PT X e t := h _
/-- an argument list (no star), from the left -/
def PA (X : Cx) (es : List Expr) (t : TA) : Prop :=
  ∀ (pos : Pos) (pins : List (Addr × Obj)) (s : Shared) (σ : St) (H : Hp) (Q : List V → Hp → Prop), Inv X pins σ H s → t σ H Q → wpAny (model X.prog X.w) X.A (spliced (backTo pos (starEach es X.env))) (AP X pins σ Q) X.xe s
def PS (X : Cx) (st : Stmt) (t : TS) : Prop :=
  ∀ (pins : List (Addr × Obj)) (s : Shared) (σ : St) (H : Hp) (D : Ends), Inv X pins σ H s → t D σ H → wpAny (model X.prog X.w) X.A (exec st X.env) (SP X pins D) X.xe s
def PSs (X : Cx) (st : List Stmt) (t : TS) : Prop :=
  ∀ (pins : List (Addr × Obj)) (s : Shared) (σ : St) (H : Hp) (D : Ends), Inv X pins σ H s → t D σ H → wpAny (model X.prog X.w) X.A (execs st X.env) (SP X pins D) X.xe s
/-- weaken the end -/
theorem thn {α : Type} {t : Sem α} {Q Q' : α → Shared → Prop} {M : Model} {A : Around} {E : Value → Shared → Prop} {s : Shared} (h : wpAny M A t Q E s) (hQ : ∀ a s, Q a s → Q' a s) : wpAny M A t Q' E s := wpAny_mono h hQ fun _ _ x => x
end L2

namespace L2
open PySem PySem.Spec PyProof.Rows
section
variable {X : Cx}

/-- two expressions in a row -/
theorem bin {a b : Expr} {ta tb : TE} (ha : PE X a ta) (hb : PE X b tb) {pins : List (Addr × Obj)} {s : Shared} {σ : St} {H : Hp} {R : V → V → Hp → Prop} (I : Inv X pins σ H s) (h : ta σ H fun x H1 => tb σ H1 fun y H2 => R x y H2)
    {α : Type} {Q : α → Shared → Prop} {f : Value → Value → Sem α}
    (hf : ∀ v u s2 x y H2, Inv X pins σ H2 s2 → RelV x v → RelV y u → R x y H2 → wpAny (model X.prog X.w) X.A (f v u) Q X.xe s2) :
    wpAny (model X.prog X.w) X.A (eval a X.env) (fun v s₁ => wpAny (model X.prog X.w) X.A (eval b X.env) (fun u s₂ => wpAny (model X.prog X.w) X.A (f v u) Q X.xe s₂) X.xe s₁) X.xe s := by
  refine thn (ha pins s σ H _ I h) fun v s1 ⟨x, H1, I1, r1, q1⟩ => ?_
  refine thn (hb pins s1 σ H1 _ I1 q1) fun u s2 ⟨y, H2, I2, r2, q2⟩ => ?_
  exact hf v u s2 x y H2 I2 r1 r2 q2

/-! ### names and constants -/
def tVar (i : Nat) : TE := fun σ H Q => ∃ v, σ[i]? = some (some v) ∧ Q v H
def tC (v : V) : TE := fun _ H Q => Q v H
theorem pe_var {i : Nat} {x : Str} {pos : Pos} (hN : X.N[i]? = some x) (hv : Vis X.env.scope x) (hd : (x == ("__debug__" : Str)) = false := by decide) (hcd : (x == ("__classdict__" : Str)) = false := by decide) : PE X (.Name x pos) (tVar i) := by
  intro pins s σ H Q I h
  obtain ⟨v, e, h⟩ := h
  obtain ⟨m, hn, hl⟩ := I.loc
  obtain ⟨u, r, l⟩ := hl i x v hN e hv
  have fin : EP X pins σ Q u s := ⟨v, H, I, r, h⟩
  rcases l with ⟨hk, hm⟩ | ⟨hk, c, hc, hcell⟩
  · exact wpAny_Name (wpAny_loadName_local I.ok.kind hk hn hm fin) hd
  · rcases hk with hk | hk
    · exact wpAny_Name (wpAny_loadName_cell I.ok.kind hk hc hcell fin) hd
    · exact wpAny_Name (wpAny_loadName_free I.ok.kind hk hc hcell fin hcd) hd
theorem pe_int {i j pos} : PE X (.Constant (.int i) j pos) (tC (.int i)) := fun _ _ _ H _ I h => wpAny_Constant_int ⟨.int i, H, I.tok _, ⟨_, rfl⟩, h⟩
theorem pe_bl {b j pos} : PE X (.Constant (.bool b) j pos) (tC (.bl b)) := fun _ _ _ H _ I h => Constant_bool ⟨.bl b, H, I, rfl, h⟩

/-- a global name of the def -/
def Gl (X : Cx) (x : Str) : Prop := X.env.kindOf x = some .globalImplicit
theorem ld_glob {E : Value → Shared → Prop} {pins : List (Addr × Obj)} {s : Shared} {σ : St} {H : Hp} {x : Str} {u : Value} {pos : Pos} {Q : Value → Shared → Prop} (I : Inv X pins σ H s) (hg : Gl X x) (hm : X.mg x = some u) (h : Q u s)
    (hd : (x == ("__debug__" : Str)) = false := by decide) : wpAny (model X.prog X.w) X.A (eval (.Name x pos) X.env) Q E s :=
  Calls.Name_function_global I.ok.kind hg (Calls.loadGlobal_global (by rw [I.ok.glob]; exact I.mod.glob.keeps I.bk) hm h) hd
theorem ld_blt {E : Value → Shared → Prop} {pins : List (Addr × Obj)} {s : Shared} {σ : St} {H : Hp} {x : Str} {u : Value} {pos : Pos} {Q : Value → Shared → Prop} (I : Inv X pins σ H s) (hg : Gl X x) (hm : X.mg x = none) (hv : bootBuiltins x = some u) (h : Q u s)
    (hn : x ≠ "__name__" := by decide) (hd : (x == ("__debug__" : Str)) = false := by decide) : wpAny (model X.prog X.w) X.A (eval (.Name x pos) X.env) Q E s := by
  obtain ⟨mb, h1, h2⟩ := I.mod.blt
  exact Calls.Name_function_global I.ok.kind hg (Calls.loadGlobal_builtin (by rw [I.ok.glob]; exact I.mod.glob.keeps I.bk) hm (by rw [I.ok.blt]; exact h1.keeps I.bk) ((h2 x hn).trans hv) h) hd
/-- a module's constant, a class, a function, as a value -/
theorem pe_glob {x : Str} {v : V} {u : Value} {pos : Pos} (hg : Gl X x) (hm : X.mg x = some u) (r : RelV v u) (hd : (x == ("__debug__" : Str)) = false := by decide) : PE X (.Name x pos) (tC v) :=
  fun _ _ _ H _ I h => ld_glob I hg hm ⟨v, H, I, r, h⟩ hd

/-! ### arithmetic -/
/-- two ints -/
def t2I (ta tb : TE) (k : Int → Int → Hp → Prop) : St → Hp → Prop := fun σ H => ta σ H fun x H1 => tb σ H1 fun y H2 => ∃ i j, x = .int i ∧ y = .int j ∧ k i j H2
variable {a b : Expr} {ta tb : TE} {pos : Pos}

/-! ### comparisons -/
def PC (X : Cx) (op : CmpOp) (a b : Expr) (t : TE) : Prop :=
  ∀ (pins : List (Addr × Obj)) (s : Shared) (σ : St) (H : Hp) (Q : VK), Inv X pins σ H s → t σ H Q →
    wpAny (model X.prog X.w) X.A (eval a X.env) (fun v s₁ => wpAny (model X.prog X.w) X.A (eval b X.env) (fun u s₂ => wpAny (model X.prog X.w) X.A (compareOp op v u) (EP X pins σ Q) X.xe s₂) X.xe s₁) X.xe s
theorem nobehind (b : Expr) {op : CmpOp} (h : op ≠ .In) (h2 : op ≠ .NotIn) : behindInMarks op b = false := by
  have e1 : (op == CmpOp.In) = false := by cases op <;> first | rfl | exact absurd rfl h
  have e2 : (op == CmpOp.NotIn) = false := by cases op <;> first | rfl | exact absurd rfl h2
  cases b <;> simp [behindInMarks, e1, e2]
def tCmp (p : Int → Int → Bool) (ta tb : TE) : TE := fun σ H Q => t2I ta tb (fun i j H2 => Q (.bl (p i j)) H2) σ H
abbrev tLt : TE → TE → TE := tCmp fun i j => decide (i < j)
abbrev tLe : TE → TE → TE := tCmp fun i j => decide (i ≤ j)
abbrev tGt : TE → TE → TE := tCmp fun i j => decide (j < i)
abbrev tEqI : TE → TE → TE := tCmp fun i j => decide (i = j)
abbrev tNeI : TE → TE → TE := tCmp fun i j => !decide (i = j)
/-- a comparison of two ints, by its rule -/
theorem pc_int {op : CmpOp} {p : Int → Int → Bool} (ha : PE X a ta) (hb : PE X b tb)
    (rule : ∀ (i j : Int) (t u : Tok) (Q : Value → Shared → Prop) (s : Shared), Q (.bool (p i j)) s → wpAny (model X.prog X.w) X.A (compareOp op (.int i t) (.int j u)) Q X.xe s) : PC X op a b (tCmp p ta tb) := by
  intro pins s σ H Q I h
  refine bin ha hb I h fun v u s2 x y H2 I2 rx ry q => ?_
  obtain ⟨i, j, rfl, rfl, q⟩ := q
  obtain ⟨t, rfl⟩ := rx
  obtain ⟨t', rfl⟩ := ry
  exact rule i j t t' _ s2 ⟨.bl _, H2, I2, rfl, q⟩
theorem pc_lt (ha : PE X a ta) (hb : PE X b tb) : PC X .Lt a b (tLt ta tb) := pc_int ha hb fun _ _ _ _ _ _ h => lt_int h
theorem pc_le (ha : PE X a ta) (hb : PE X b tb) : PC X .LtE a b (tLe ta tb) := pc_int ha hb fun _ _ _ _ _ _ h => le_int h
theorem pc_gt (ha : PE X a ta) (hb : PE X b tb) : PC X .Gt a b (tGt ta tb) := pc_int ha hb fun _ _ _ _ _ _ h => gt_int h
theorem pc_eqI (ha : PE X a ta) (hb : PE X b tb) : PC X .Eq a b (tEqI ta tb) := pc_int ha hb fun _ _ _ _ _ _ h => eq_int (by rw [Bool.beq_eq_decide_eq]; exact h)
theorem pc_neI (ha : PE X a ta) (hb : PE X b tb) : PC X .NotEq a b (tNeI ta tb) := pc_int ha hb fun _ _ _ _ _ _ h => ne_int (by rw [bne, Bool.beq_eq_decide_eq]; exact h)
/-- a comparison as a value, as a test -/
def tB (t : TE) : TT := fun σ H Q => t σ H fun x H1 => ∃ c, x = .bl c ∧ Q c H1
theorem pe_cmp {op : CmpOp} {t : TE} (h : PC X op a b t) (h1 : behindInMarks op b = false := by first | exact nobehind _ (by decide) (by decide) | rfl) : PE X (.Compare a [op] [b] pos) t := fun pins s σ H Q I hw => wpAny_Compare1 (h pins s σ H Q I hw) h1
theorem pt_cmp {op : CmpOp} {t : TE} (h : PC X op a b t) (h1 : behindInMarks op b = false := by first | exact nobehind _ (by decide) (by decide) | rfl) : PT X (.Compare a [op] [b] pos) (tB t) := by
  intro pins s σ H Q I hw
  refine wpAny_isTrue_Compare1 (thn (h pins s σ H _ I hw) fun v s1 h1 => thn h1 fun u s2 h2 => thn h2 fun c s3 ⟨x, H1, I1, r1, q1⟩ => ?_) h1
  obtain ⟨d, rfl, q⟩ := q1
  cases r1
  exact wpAny_truthy_bool ⟨H1, I1, q⟩
/-- an expression whose value is a bool, as a test -/
theorem pt_val {e : Expr} {t : TE} (h : PE X e t) (he : ∀ whole, isTrue e X.env whole = (do let v ← whole; standAt e.pos; holding [v] (truthy v)) := by intro _; rfl) : PT X e (tB t) := by
  intro pins s σ H Q I hw
  refine isTrue_plain (thn (h pins s σ H _ I hw) fun v s1 ⟨x, H1, I1, r1, q1⟩ => ?_) (he _)
  obtain ⟨d, rfl, q⟩ := q1
  cases r1
  exact wpAny_truthy_bool ⟨H1, I1, q⟩

/-! ### and, or, not -/
variable {tA tB' : TT} {rest : List Expr}
def tOr (t u : TT) : TT := fun σ H Q => t σ H fun c H1 => if c = true then Q true H1 else u σ H1 Q
def tNot (t : TT) : TT := fun σ H Q => t σ H fun c H1 => Q (!c) H1
theorem pw_or1 (ha : PT X a tA) : PW X (.BoolOp .Or [a] pos) tA := by
  intro wh pins s σ H Q I h
  refine isTrue_or (thn (ha pins s σ H Q I h) fun c s1 e => ?_)
  cases c with
  | false => exact isTrue_or_nil e
  | true => exact e
theorem pw_or (ha : PT X a tA) (hb : PW X (.BoolOp .Or (b :: rest) pos) tB') : PW X (.BoolOp .Or (a :: b :: rest) pos) (tOr tA tB') := by
  intro wh pins s σ H Q I h
  refine isTrue_or (thn (ha pins s σ H _ I h) fun c s1 ⟨H1, I1, q1⟩ => ?_)
  cases c with
  | true => exact ⟨H1, I1, q1⟩
  | false => exact hb wh pins s1 σ H1 Q I1 q1
theorem pt_not (ha : PT X a tA) : PT X (.UnaryOp .Not a pos) (tNot tA) := by
  intro pins s σ H Q I h
  exact isTrue_not (ha pins s σ H (fun c H1 => Q (!c) H1) I h)
/-- .. as values (bools) -/
def tAndV (ta tb : TE) : TE := fun σ H Q => ta σ H fun x H1 => ∃ c, x = .bl c ∧ if c = true then tb σ H1 Q else Q (.bl false) H1
theorem pe_one {op} {t : TE} (h : PE X a t) : PE X (.BoolOp op [a] pos) t := fun pins s σ H Q I hw => BoolOp_one (h pins s σ H Q I hw)
theorem pe_and (ha : PE X a ta) (hb : PE X (.BoolOp .And (b :: rest) pos) tb) : PE X (.BoolOp .And (a :: b :: rest) pos) (tAndV ta tb) := by
  intro pins s σ H Q I h
  refine BoolOp_and (thn (ha pins s σ H _ I h) fun v s1 ⟨x, H1, I1, r1, q1⟩ => ?_)
  obtain ⟨c, rfl, q1⟩ := q1
  cases r1
  refine wpAny_truthy_bool ?_
  cases c with
  | true => exact hb pins s1 σ H1 Q I1 q1
  | false => exact ⟨.bl false, H1, I1, rfl, q1⟩
end
end L2

namespace L2
open PySem PySem.Spec PyProof.Rows

/-! ### a list, a tuple that is read: tracked, frozen, or an object of the module -/
def SqL (K : PySem.W.Frag) (H : Hp) (a : Addr) (xs : List V) : Prop :=
  Rd H a (.lst xs) ∨
    ∃ (o : Obj) (its : Array Value) (n : Nat), K.lookup a = some o ∧ o.cls = .type "list" ∧ o.dict = none ∧ o.data = .seq its n ∧ its.size ≤ sizeLine ∧ Vals xs its.toList
def SqT (K : PySem.W.Frag) (H : Hp) (a : Addr) (xs : List V) : Prop :=
  Rd H a (.tup xs) ∨
    ∃ (o : Obj) (its : Array Value) (n : Nat), K.lookup a = some o ∧ o.cls = .type "tuple" ∧ o.data = .seq its n ∧ its.size ≤ sizeLine ∧ Vals xs its.toList
def absV : Value → Option V
  | .none => some .non
  | .bool b => some (.bl b)
  | .int i _ => some (.int i)
  | .str x _ => some (.str x)
  | .bytes b _ => some (.byt b)
  | .float b _ => some (.flt b)
  | .ref a => some (.ref a)
  | .type n => some (.ty n)
  | _ => none
theorem RelV.abs {x : V} {u : Value} (r : RelV x u) : absV u = some x := by
  cases x with
  | non => cases r; rfl
  | bl _ => cases r; rfl
  | int _ => obtain ⟨t, rfl⟩ := r; rfl
  | str _ => obtain ⟨t, rfl⟩ := r; rfl
  | byt _ => obtain ⟨t, rfl⟩ := r; rfl
  | flt _ => obtain ⟨t, rfl⟩ := r; rfl
  | ref _ => cases r; rfl
  | ty _ => cases r; rfl
theorem RelV.inj {x y : V} {u : Value} (r : RelV x u) (q : RelV y u) : x = y := Option.some.inj (r.abs.symm.trans q.abs)
theorem Vals.inj : ∀ {xs ys : List V} {us : List Value}, Vals xs us → Vals ys us → xs = ys
  | _, _, _, .nil, .nil => rfl
  | _, _, _, .cons r t, .cons r' t' => by rw [r.inj r', Vals.inj t t']
section
variable {X : Cx} {pins : List (Addr × Obj)} {σ : St} {H : Hp} {s : Shared} {a : Addr} {xs ys : List V}
theorem SqL.of {K : PySem.W.Frag} (h : H a = some (.lst xs)) : SqL K H a xs := .inl (.inl h)
theorem SqT.of {K : PySem.W.Frag} (h : H a = some (.tup xs)) : SqT K H a xs := .inl (.inl h)
theorem Inv.list (I : Inv X pins σ H s) (h : SqL X.K H a xs) : ∃ its : List Value, Vals xs its ∧ PlainL s.heap a its.toArray ∧ xs.length ≤ sizeLine := by
  rcases h with h | ⟨o, its, n, hk, hc, hd, hs, hz, r⟩
  · obtain ⟨z, its, n, r, e⟩ := h.ok I.hok
    exact ⟨its, r, ⟨_, n, e, rfl, rfl, rfl⟩, z⟩
  · refine ⟨its.toList, r, ⟨o, n, I.kIn a o hk, hc, hd, by simpa using hs⟩, ?_⟩
    have e := r.length
    simp only [Array.length_toList] at e
    omega
theorem Inv.tuple (I : Inv X pins σ H s) (h : SqT X.K H a xs) : ∃ its : List Value, Vals xs its ∧ IsTup s.heap a its.toArray ∧ xs.length ≤ sizeLine := by
  rcases h with h | ⟨o, its, n, hk, hc, hs, hz, r⟩
  · obtain ⟨z, its, r, p⟩ := h.ok I.hok
    exact ⟨its, r, p, z⟩
  · refine ⟨its.toList, r, ⟨o, I.kIn a o hk, hc, n, by simpa using hs⟩, ?_⟩
    have e := r.length
    simp only [Array.length_toList] at e
    omega
theorem Inv.list_inj (I : Inv X pins σ H s) (h : SqL X.K H a xs) (h' : SqL X.K H a ys) : xs = ys := by
  obtain ⟨its, r, ⟨o, n, e, _, _, d⟩, _⟩ := I.list h
  obtain ⟨its', r', ⟨o', n', e', _, _, d'⟩, _⟩ := I.list h'
  rw [e] at e'; cases e'
  rw [d] at d'
  injection d' with d1 _
  have : its = its' := by simpa using congrArg Array.toList d1
  subst this
  exact r.inj r'
end

/-! ### another wish about exceptions -/
abbrev Cx.wish (X : Cx) (E : Value → Shared → Prop) : Cx := { X with xe := E }
/-- no exception leaves -/
abbrev Cx.nox (X : Cx) : Cx := X.wish fun _ _ => False
theorem Cx.Ok.wish {X : Cx} (ok : X.Ok) (E : Value → Shared → Prop) : (X.wish E).Ok :=
  ⟨ok.mod, ok.kind, ok.glob, ok.blt, ok.above, ok.inj, ok.has, ok.cab, ok.hd, ok.frames, ok.stk, ok.exf, ok.bs, ok.bsz, ok.noex, ok.exfs, ok.funs, ok.frf⟩
theorem Cx.Ok.unwish {X : Cx} {E : Value → Shared → Prop} (ok : (X.wish E).Ok) : X.Ok :=
  ⟨ok.mod, ok.kind, ok.glob, ok.blt, ok.above, ok.inj, ok.has, ok.cab, ok.hd, ok.frames, ok.stk, ok.exf, ok.bs, ok.bsz, ok.noex, ok.exfs, ok.funs, ok.frf⟩
section
variable {X : Cx} {pins : List (Addr × Obj)} {σ : St} {H : Hp} {s : Shared} {E : Value → Shared → Prop}
theorem Inv.wish (I : Inv X pins σ H s) (E : Value → Shared → Prop) : Inv (X.wish E) pins σ H s := ⟨I.ok.wish E, I.os, I.bare, I.base, I.loc, I.cell, I.free, I.freeC, I.pin, I.hok, I.len⟩
theorem Inv.unwish (I : Inv (X.wish E) pins σ H s) : Inv X pins σ H s := ⟨I.ok.unwish, I.os, I.bare, I.base, I.loc, I.cell, I.free, I.freeC, I.pin, I.hok, I.len⟩
theorem SP.unwish {D : Ends} {f : Flow} {s' : Shared} (h : SP (X.wish E) pins D f s') : SP X pins D f s' := by
  cases f with
  | next => obtain ⟨σ', H', I, q⟩ := h; exact ⟨σ', H', I.unwish, q⟩
  | brk => obtain ⟨σ', H', I, q⟩ := h; exact ⟨σ', H', I.unwish, q⟩
  | cont => obtain ⟨σ', H', I, q⟩ := h; exact ⟨σ', H', I.unwish, q⟩
  | ret u => obtain ⟨v, σ', H', I, r, q⟩ := h; exact ⟨v, σ', H', I.unwish, r, q⟩
theorem PE.nox {e : Expr} {t : TE} (h : PE X.nox e t) : PE X e t := fun pins s σ H Q I hw =>
  wpAny_mono (h pins s σ H Q (I.wish _) hw) (fun _ _ ⟨v, H', I', r, q⟩ => ⟨v, H', I'.unwish, r, q⟩) fun _ _ z => False.elim z
theorem PT.nox {e : Expr} {t : TT} (h : PT X.nox e t) : PT X e t := fun pins s σ H Q I hw =>
  wpAny_mono (h pins s σ H Q (I.wish _) hw) (fun _ _ ⟨H', I', q⟩ => ⟨H', I'.unwish, q⟩) fun _ _ z => False.elim z
theorem PSs.nox {st : List Stmt} {t : TS} (h : PSs X.nox st t) : PSs X st t := fun pins s σ H D I hw =>
  wpAny_mono (h pins s σ H D (I.wish _) hw) (fun _ _ q => q.unwish) fun _ _ z => False.elim z
end

/-! ### blocks and small statements -/
section
variable {X : Cx} {st : Stmt} {rest : List Stmt} {t u : TS} {e : Expr} {te : TE} {pos : Pos}
def tNext : TS := fun D σ H => D.nx σ H
def tSeq (t u : TS) : TS := fun D σ H => t { D with nx := u D } σ H
theorem pss_nil : PSs X [] tNext := fun _ _ σ H _ I h => wpAny_execs_nil ⟨σ, H, I, h⟩
theorem pss_cons (h1 : PS X st t) (h2 : PSs X rest u) : PSs X (st :: rest) (tSeq t u) := by
  intro pins s σ H D I h
  refine wpAny_execs_cons (thn (h1 pins s σ H { D with nx := u D } I h) fun f s1 q => ?_)
  cases f with
  | next =>
    obtain ⟨σ', H', I', q⟩ := q
    exact h2 pins s1 σ' H' D I' q
  | ret v => exact q
  | brk => exact q
  | cont => exact q
theorem pss_one (h1 : PS X st t) : PSs X [st] t := by
  intro pins s σ H D I h
  refine wpAny_execs_cons (thn (h1 pins s σ H D I h) fun f s1 q => ?_)
  cases f with
  | next => exact wpAny_execs_nil q
  | ret v => exact q
  | brk => exact q
  | cont => exact q
/-- in a def's body nothing is shown -/
theorem Inv.quiet {pins : List (Addr × Obj)} {σ : St} {H : Hp} {s : Shared} (I : Inv X pins σ H s) : interactive X.env = false := by simp [interactive, I.ok.kind]
/-- an expression whose value is dropped -/
def tDrop (te : TE) : TS := fun D σ H => te σ H fun _ H1 => D.nx σ H1
theorem ps_expr (he : PE X e te) (hs : swapsWith e none pos.line X.env = pure false := by rfl) : PS X (.Expr e pos) (tDrop te) := by
  intro pins s σ H D I h
  exact wpAny_Expr_any (thn (he pins s σ H _ I h) fun v s1 ⟨x, H1, I1, r1, q1⟩ => ⟨σ, H1, I1, q1⟩) I.quiet hs
def tRet (te : TE) : TS := fun D σ H => te σ H D.rt
theorem ps_ret (he : PE X e te) : PS X (.Return (some e) pos) (tRet te) := by
  intro pins s σ H D I h
  exact wpAny_Return_some (thn (he pins s σ H _ I h) fun v s1 ⟨x, H1, I1, r1, q1⟩ => ⟨x, σ, H1, I1, r1, q1⟩)
def tIfS (c : TT) (t u : TS) : TS := fun D σ H => c σ H fun b H1 => if b = true then t D σ H1 else u D σ H1
theorem ps_if {c : Expr} {a b : List Stmt} {tc : TT} (hc : PT X c tc) (ha : PSs X a t) (hb : PSs X b u) : PS X (.If c a b pos) (tIfS tc t u) := by
  intro pins s σ H D I h
  refine wpAny_If (thn (hc pins s σ H _ I h) fun d s1 ⟨H1, I1, q1⟩ => ?_)
  cases d with
  | true => exact ha pins s1 σ H1 D I1 q1
  | false => exact hb pins s1 σ H1 D I1 q1
end

/-! ### targets -/
abbrev TG := V → St → Hp → (St → Hp → Prop) → Prop
def PG (X : Cx) (target : Expr) (t : TG) : Prop :=
  ∀ (pins : List (Addr × Obj)) (s : Shared) (σ : St) (H : Hp) (v : V) (u : Value) (Q : St → Hp → Prop), Inv X pins σ H s → RelV v u → t v σ H Q →
    wpAny (model X.prog X.w) X.A (assign target X.env u) (fun _ s' => ∃ σ' H', Inv X pins σ' H' s' ∧ Q σ' H') X.xe s
section
variable {X : Cx} {pos : Pos}
def gName (i : Nat) : TG := fun v σ H Q => Q (σ.set i (some v)) H
theorem pg_name {i : Nat} {x : Str} (hN : X.N.Nodup) (hi : X.N[i]? = some x) (hx : Loc X.env.scope x) (hf : X.fn x = true ∨ X.env.scope.names.lookup x = some .local := by first | exact .inl rfl | exact .inr rfl | assumption) : PG X (.Name x pos) (gName i) := by
  intro pins s σ H v u Q I r h
  exact wpAny_assign_Name (store_ok I hN hi hx r (fun s' I' => ⟨_, H, I', h⟩) hf)
/-- target = value -/
def tAsg (te : TE) (g : TG) : TS := fun D σ H => te σ H fun x H1 => g x σ H1 D.nx
/-- name = value -/
theorem ps_set {i : Nat} {x : Str} {e : Expr} {te : TE} {pos' : Pos} (hN : X.N.Nodup) (hi : X.N[i]? = some x) (hx : Loc X.env.scope x) (he : PE X e te) (hs : swapsWith e (some (.Name x pos')) pos.line X.env = pure false := by rfl) (hf : X.fn x = true ∨ X.env.scope.names.lookup x = some .local := by first | exact .inl rfl | exact .inr rfl | assumption) :
    PS X (.Assign [.Name x pos'] e pos) (tAsg te (gName i)) := by
  intro pins s σ H D I h
  refine wpAny_Assign_Name (thn (he pins s σ H _ I h) fun v s1 ⟨y, H1, I1, r1, q1⟩ => ?_) hs
  exact store_ok I1 hN hi hx r1 (fun s2 I2 => ⟨_, H1, I2, q1⟩) hf
end

/-! ### while -/
section
variable {X : Cx} {pos : Pos}
/-- the invariant W with its measure -/
def tWhile (c : TT) (tb : TS) : TS := fun D σ H => ∃ W : Nat → St → Hp → Prop, (∃ m, W m σ H) ∧ ∀ m σ H, W m σ H →
  c σ H fun b H1 => if b = true then ∃ N : St → Hp → Prop, (∀ σ' H', N σ' H' → ∃ m', m' < m ∧ W m' σ' H') ∧ tb { D with nx := N, ct := N, bk := D.nx } σ H1 else D.nx σ H1
theorem ps_while {c : Expr} {body : List Stmt} {tc : TT} {tb : TS} (hp : PassesOwn (model X.prog X.w) X.A X.env X.xe) (hc : PT X c tc) (hb : PSs X body tb) : PS X (.While c body [] pos) (tWhile tc tb) := by
  intro pins s σ H D I h
  obtain ⟨W, ⟨m0, w0⟩, turn⟩ := h
  refine wpAny_While (codeAny_whileLoop (fun n s' => ∃ σ' H', Inv X pins σ' H' s' ∧ W n σ' H') ?_ m0 ⟨σ, H, I, w0⟩)
  rintro n s1 ⟨σ1, H1, I1, w1⟩
  refine wpAny_passesOwn hp (thn (hc pins s1 σ1 H1 _ I1 (turn n σ1 H1 w1)) fun b s2 ⟨H2, I2, q2⟩ => ?_)
  cases b with
  | true =>
    obtain ⟨N, hN, q2⟩ := q2
    rw [if_pos rfl]
    refine wpAny_passesOwn hp (thn (hb pins s2 σ1 H2 _ I2 q2) fun f s3 q3 => ?_)
    cases f with
    | next =>
      obtain ⟨σ3, H3, I3, n3⟩ := q3
      obtain ⟨m', hm, w3⟩ := hN σ3 H3 n3
      exact ⟨m', hm, σ3, H3, I3, w3⟩
    | cont =>
      obtain ⟨σ3, H3, I3, n3⟩ := q3
      obtain ⟨m', hm, w3⟩ := hN σ3 H3 n3
      exact ⟨m', hm, σ3, H3, I3, w3⟩
    | brk => exact q3
    | ret v => exact q3
  | false =>
    rw [if_neg Bool.false_ne_true]
    exact wpAny_execs_nil ⟨σ1, H2, I2, q2⟩
end

/-! ### what a loop or a comprehension walks -/
/-- at turn i: it yields x (the heap may grow), or it stops -/
structure It where
  go : Nat → Hp → Prop
  yld : Nat → Hp → V → Hp → Prop
  stop : Nat → Hp → Prop
/-- the iterator's own objects may turn: they are not the frame's, not pinned, younger than the entry (or a comprehension's own) -/
def FpOk (X : Cx) (pins : List (Addr × Obj)) (H : Hp) (b : Addr) : Prop :=
  H b = none ∧ b ≠ X.env.locals ∧ b ∉ X.fs ∧ (b ∈ X.ex ∨ X.s_0.heap.objs.size ≤ b) ∧ (∀ x c, X.env.cells.lookup x = some c → c ≠ b) ∧ ∀ p ∈ X.pn ++ pins, p.1 ≠ b
theorem Inv.fpOk {X : Cx} {pins : List (Addr × Obj)} {σ : St} {H H' : Hp} {s : Shared} {b : Addr} (I : Inv X pins σ H s) (hb : s.heap.objs.size ≤ b) (hn : H' b = none) : FpOk X pins H' b := by
  refine ⟨hn, Nat.ne_of_gt (Nat.lt_of_lt_of_le I.lt hb), I.nofs hb, .inr (Nat.le_trans I.sz hb), fun x c e z => ?_, fun p hp z => ?_⟩
  · obtain ⟨v, q⟩ := I.cell x c e
    exact absurd (Nat.lt_of_lt_of_le q.lt (by rw [z]; exact hb)) (Nat.lt_irrefl _)
  · exact absurd (Nat.lt_of_lt_of_le (Heap.lt_size (I.pin p hp).1) (by rw [z]; exact hb)) (Nat.lt_irrefl _)
structure Turn (P : Program) (w : World) (K : PySem.W.Frag) (tg : Expr) (J : It) (fp : List Addr) (it : Addr) (tn : Nat → Heap → Prop) : Prop where
  mem : it ∈ fp
  obj : ∀ i h, tn i h → ∀ b ∈ fp, ∃ o, h.get? b = some o ∧ ∀ v, o.data ≠ .cell v
  keep : ∀ i h h', tn i h → (∀ b ∈ fp, ∀ o, h.get? b = some o → h'.get? b = some o) → tn i h'
  item : ∀ (X : Cx), X.prog = P → X.w = w → X.K = K → X.calm = true → ∀ (i : Nat) (pins : List (Addr × Obj)) (s : Shared) (σ : St) (H : Hp) (E : Value → Shared → Prop), Inv X pins σ H s → (∀ b ∈ fp, FpOk X pins H b) → tn i s.heap → J.go i H →
    wpAny (model P w) X.A (pyNext (.ref it)) (fun r s1 => ∃ u, r = some u ∧
      wpAny (model P w) X.A (letOwnedTupleGo tg (.ref it) u) (fun _ s2 => ∃ x H', Inv X pins σ H' s2 ∧ RelV x u ∧ J.yld i H x H' ∧ tn (i + 1) s2.heap ∧ ∀ b ∈ fp, H' b = none) E s1) E s
  done : ∀ (X : Cx), X.prog = P → X.w = w → X.K = K → X.calm = true → ∀ (i : Nat) (pins : List (Addr × Obj)) (s : Shared) (σ : St) (H : Hp) (E : Value → Shared → Prop), Inv X pins σ H s → (∀ b ∈ fp, FpOk X pins H b) → tn i s.heap → J.stop i H →
    wpAny (model P w) X.A (pyNext (.ref it)) (fun r s1 => r = none ∧ Inv X pins σ H s1) E s
  self : ∀ (A : Around) (i : Nat) (s : Shared) (Q : Value → Shared → Prop) (E : Value → Shared → Prop), tn i s.heap → Q (.ref it) s → wpAny (model P w) A (pyIter (.ref it)) Q E s
abbrev TI := St → Hp → (It → Hp → Prop) → Prop
/-- an iterator has come -/
def PIE (X : Cx) (pins : List (Addr × Obj)) (σ : St) (tg : Expr) (R : It → Hp → Prop) (itv : Value) (s2 : Shared) : Prop :=
  ∃ (it : Addr) (fp : List Addr) (tn : Nat → Heap → Prop) (J : It) (H' : Hp), itv = .ref it ∧ Inv X pins σ H' s2 ∧ Turn X.prog X.w X.K tg J fp it tn ∧ tn 0 s2.heap ∧ (∀ b ∈ fp, FpOk X pins H' b) ∧ R J H'
def PI (X : Cx) (tg iter : Expr) (wi : TI) : Prop :=
  ∀ (pins : List (Addr × Obj)) (s : Shared) (σ : St) (H : Hp) (R : It → Hp → Prop), Inv X pins σ H s → wi σ H R →
    wpAny (model X.prog X.w) X.A (eval iter X.env) (fun v s1 => wpAny (model X.prog X.w) X.A (pyIter v) (PIE X pins σ tg R) X.xe s1) X.xe s

/-- the step ahead of the store is nothing for an iterator that keeps no tuple -/
theorem go_of {M : Model} {A : Around} {E : Value → Shared → Prop} {s : Shared} {tg : Expr} {it : Addr} {u : Value} {o : Obj} {n : String} {vs : Array Value} {Q : Unit → Shared → Prop} (ho : s.heap.get? it = some o) (hc : o.cls = .type n) (hd : o.data = .fields vs)
    (hn : ["enumerate", "zip", "dict_itemiterator", "dict_reverseitemiterator", "odict_iterator", "itertools.zip_longest", "itertools.pairwise"].contains n = false) (hQ : Q () s) : wpAny M A (letOwnedTupleGo tg (.ref it) u) Q E s := by
  unfold letOwnedTupleGo
  cases tg <;> first
    | exact wpAny_pure hQ
    | (cases u <;> first
        | exact wpAny_pure hQ
        | (refine wpAny_bind (wpAny_load ho ?_)
           rw [hc, hd]
           show wpAny M A (if (["enumerate", "zip", "dict_itemiterator", "dict_reverseitemiterator", "odict_iterator", "itertools.zip_longest", "itertools.pairwise"].contains n && vs[0]? == some (rawInt _)) = true then _ else _) Q E s
           rw [if_neg (by intro h; rw [hn, Bool.false_and] at h; cases h)]
           exact wpAny_pure hQ))

/-- the list at a, as it stands at each turn (a loop may append to it) -/
def Itl (K : PySem.W.Frag) (a : Addr) : It :=
  ⟨fun i H => ∃ xs x, SqL K H a xs ∧ xs[i]? = some x, fun i H x H' => H' = H ∧ ∀ xs, SqL K H a xs → xs[i]? = some x, fun i H => ∃ xs, SqL K H a xs ∧ xs.length ≤ i⟩
/-- lo, lo + 1, .. (n of them) -/
def Itr (lo : Int) (n : Nat) : It := ⟨fun i _ => i < n, fun i H x H' => H' = H ∧ x = .int (lo + i), fun i _ => n ≤ i⟩
theorem turn_list {P : Program} {w : World} {K : PySem.W.Frag} {tg : Expr} (a it : Addr) : Turn P w K tg (Itl K a) [it] it (fun i h => h.IsListIter it a i) where
  mem := by simp
  obj := fun i h st b hb => by
    have e : b = it := by simpa using hb
    subst e
    obtain ⟨o, e, c, d⟩ := st
    exact ⟨o, e, fun v z => by rw [d] at z; cases z⟩
  keep := fun i h h' st k => st.at fun o e => k it (by simp) o e
  item := by
    intro X hP hw hK hc i pins s σ H E I hf st hg
    subst hP hw hK
    obtain ⟨xs, x, hq, hx⟩ := hg
    obtain ⟨its, rv, p, hz⟩ := I.list hq
    obtain ⟨u, hu, ru⟩ := rv.get hx
    obtain ⟨f0, f1, f2, f3, f4, f5⟩ := hf it (by simp)
    refine wpAny_pyNext_list_item st p.isList (x := u) (by simpa using hu) fun h' st' sb => ?_
    have I1 : Inv X pins σ H { s with heap := h' } := I.turned (t' := s.toks) (fun b o hb e => (sb.2 b hb).trans e) f0 f1 f3 f4 f5
    obtain ⟨o, e, c, d⟩ := id st'
    exact ⟨u, rfl, go_of (s := { s with heap := h' }) e c d (by decide) ⟨x, H, I1, ru, ⟨rfl, fun ys hy => by rw [I.list_inj hy hq]; exact hx⟩, st', fun b hb => (hf b hb).1⟩⟩
  done := by
    intro X hP hw hK hc i pins s σ H E I hf st hg
    subst hP hw hK
    obtain ⟨xs, hq, hx⟩ := hg
    obtain ⟨its, rv, p, hz⟩ := I.list hq
    obtain ⟨f0, f1, f2, f3, f4, f5⟩ := hf it (by simp)
    have hl := rv.length
    exact wpAny_pyNext_list_end (I.ok.hd hc) st p.isList (by simp; omega) fun h' eb => ⟨rfl, I.turned (t' := s.toks) (fun b o hb e => eb b o hb e) f0 f1 f3 f4 f5⟩
  self := fun _ _ _ _ _ st h => wpAny_pyIter_listiter st h
theorem turn_range {P : Program} {w : World} {K : PySem.W.Frag} {tg : Expr} (it : Addr) (lo : Int) (n : Nat) : Turn P w K tg (Itr lo n) [it] it (fun i h => IsRangeIter h it (lo + (i : Nat) * 1) ((n : Int) - (i : Nat)) 1) where
  mem := by simp
  obj := fun i h st b hb => by
    have e : b = it := by simpa using hb
    subst e
    exact ⟨_, st, fun v z => by
      have z' : Data.fields _ = Data.cell v := z
      cases z'⟩
  keep := fun i h h' st k => k it (by simp) _ st
  item := by
    intro X hP hw hK hc i pins s σ H E I hf st hg
    subst hP hw hK
    obtain ⟨f0, f1, f2, f3, f4, f5⟩ := hf it (by simp)
    have W := Walks.range (prog := X.prog) (w := X.w) (I.ok.hd hc) it lo 1 n
    refine W.item i s _ _ hg st fun v h' tk hv st' kk => ?_
    obtain ⟨t, rfl⟩ := hv
    have I1 : Inv X pins σ H { s with heap := h', toks := tk } := I.turned (fun b o hb e => kk b o (by simpa using hb) e) f0 f1 f3 f4 f5
    refine ⟨_, rfl, go_of (s := { s with heap := h', toks := tk }) (n := "range_iterator") st' rfl rfl (by decide) ⟨.int (lo + i), H, I1, ⟨t, ?_⟩, ⟨rfl, rfl⟩, st', fun b hb => (hf b hb).1⟩⟩
    rw [Int.mul_one]
  done := by
    intro X hP hw hK hc i pins s σ H E I hf st hg
    subst hP hw hK
    obtain ⟨f0, f1, f2, f3, f4, f5⟩ := hf it (by simp)
    exact wpAny_pyNext_range_end (I.ok.hd hc) st (by have : n ≤ i := hg; omega) fun h' eb => ⟨rfl, I.turned (t' := s.toks) (fun b o hb e => eb b o hb e) f0 f1 f3 f4 f5⟩
  self := fun _ _ _ _ _ st h => wpAny_pyIter_rangeiter st h
end L2

namespace L2
open PySem PySem.Spec PyProof.Rows
section
variable {X : Cx} {tg : Expr}
def iList (K : PySem.W.Frag) (tl : TE) : TI := fun σ H R => tl σ H fun x H1 => ∃ a, x = .ref a ∧ (∃ xs, SqL K H1 a xs) ∧ R (Itl K a) H1
theorem pi_list {l : Expr} {tl : TE} (hl : PE X l tl) : PI X tg l (iList X.K tl) := by
  intro pins s σ H R I h
  refine thn (hl pins s σ H _ I h) fun v s1 ⟨x, H1, I1, r1, q1⟩ => ?_
  obtain ⟨a, e, ⟨xs, hq⟩, q⟩ := q1
  subst e
  cases r1
  obtain ⟨its, rv, p, hz⟩ := I1.list hq
  refine wpAny_pyIter_list p.isList ?_
  refine ⟨s1.heap.objs.size, [s1.heap.objs.size], _, _, H1, rfl, I1.kept (t' := s1.toks) fun b o e => Heap.get?_push_of_some _ e, turn_list a _, ⟨_, Heap.get?_push_size _ rfl, rfl, rfl⟩, fun b hb => ?_, q⟩
  have e : b = s1.heap.objs.size := by simpa using hb
  subst e
  exact I1.fpOk (Nat.le_refl _) (I1.hok.fresh (Nat.le_refl _))
/-- a range object just made, walked -/
theorem range_it {pins : List (Addr × Obj)} {σ : St} {H : Hp} {s : Shared} {R : It → Hp → Prop} {E : Value → Shared → Prop} {lo hi : Int} {t u v : Tok} {tk : Nat} (I : Inv X pins σ H s) (h1 : -(2 ^ 62) ≤ lo) (h2 : lo < 2 ^ 62) (h3 : -(2 ^ 62) ≤ hi) (h4 : hi < 2 ^ 62)
    (q : R (Itr lo (hi - lo).toNat) H) : wpAny (model X.prog X.w) X.A (pyIter (.ref s.heap.objs.size)) (PIE X pins σ tg R) E { s with heap := s.heap.push { cls := .type "range", data := .fields #[.int lo t, .int hi u, .int 1 v] }, toks := tk } := by
  refine wpAny_pyIter_range (IsRange.new ..) (small_one h1 h2 h3 h4) ?_
  have I1 : Inv X pins σ H { s with heap := s.heap.push { cls := .type "range", data := .fields #[.int lo t, .int hi u, .int 1 v] }, toks := tk } := I.kept fun b o e => Heap.get?_push_of_some _ e
  refine ⟨(s.heap.push { cls := .type "range", data := .fields #[.int lo t, .int hi u, .int 1 v] }).objs.size, [(s.heap.push { cls := .type "range", data := .fields #[.int lo t, .int hi u, .int 1 v] }).objs.size], _, _, H, rfl,
    I1.kept (t' := tk) fun b o e => Heap.get?_push_of_some _ e, turn_range _ lo (hi - lo).toNat, ?_, fun b hb => ?_, q⟩
  · have e1 : lo + ((0 : Nat) : Int) * 1 = lo := by simp
    have e2 : (((hi - lo).toNat : Nat) : Int) - ((0 : Nat) : Int) = Builtin.Range.rangeSize lo hi 1 := by rw [rangeSize_one]; split <;> omega
    show IsRangeIter _ _ (lo + ((0 : Nat) : Int) * 1) ((((hi - lo).toNat : Nat) : Int) - ((0 : Nat) : Int)) 1
    rw [e1, e2]
    exact Heap.get?_push_size _ rfl
  · have e : b = (s.heap.push { cls := .type "range", data := .fields #[.int lo t, .int hi u, .int 1 v] }).objs.size := by simpa using hb
    subst e
    exact I1.fpOk (Nat.le_refl _) (I1.hok.fresh (Nat.le_refl _))
def iRng1 (ta : TA) : TI := fun σ H R => ta σ H fun vs H1 => ∃ j : Int, vs = [.int j] ∧ -(2 ^ 62) ≤ j ∧ j < 2 ^ 62 ∧ R (Itr 0 j.toNat) H1
def iRng2 (ta : TA) : TI := fun σ H R => ta σ H fun vs H1 => ∃ i j : Int, vs = [.int i, .int j] ∧ (-(2 ^ 62) ≤ i ∧ i < 2 ^ 62 ∧ -(2 ^ 62) ≤ j ∧ j < 2 ^ 62) ∧ R (Itr i (j - i).toNat) H1
theorem pi_range1 {a : Expr} {ta : TA} {p pos : Pos} (hg : Gl X "range") (hm : X.mg "range" = none) (ha : PA X [a] ta) (hs : starEach [a] X.env = [(false, eval a X.env)] := by rfl) : PI X tg (.Call (.Name "range" p) [a] [] pos) (iRng1 ta) := by
  intro pins s σ H R I h
  refine Call_ (ld_blt I hg hm boot_range (PyProof.Rows.callWith_type1 (thn (ha pos pins s σ H _ I h) fun us s1 ⟨vs, H1, I1, r1, q1⟩ => ?_) hs rfl))
  obtain ⟨j, e, q1, q2, q⟩ := q1
  subst e
  cases r1 with
  | cons r rr =>
    cases rr
    obtain ⟨t, rfl⟩ := r
    exact call_range_1 (range_it I1 (by omega) (by omega) q1 q2 (by simpa using q))
theorem pi_range2 {a b : Expr} {ta : TA} {p pos : Pos} (hg : Gl X "range") (hm : X.mg "range" = none) (ha : PA X [a, b] ta) (hs : starEach [a, b] X.env = [(false, eval a X.env), (false, eval b X.env)] := by rfl) (hs2 : starEach [b] X.env = [(false, eval b X.env)] := by rfl) :
    PI X tg (.Call (.Name "range" p) [a, b] [] pos) (iRng2 ta) := by
  intro pins s σ H R I h
  refine Call_ (ld_blt I hg hm boot_range (PyProof.Rows.callWith_type1 (thn (ha pos pins s σ H _ I h) fun us s1 ⟨vs, H1, I1, r1, q1⟩ => ?_) (by rw [hs, hs2]) (by rw [hs2]; rfl)))
  obtain ⟨i, j, e, ⟨q1, q2, q3, q4⟩, q⟩ := q1
  subst e
  cases r1 with
  | cons r rr =>
    cases rr with
    | cons r' rr =>
      cases rr
      obtain ⟨t, rfl⟩ := r
      obtain ⟨t', rfl⟩ := r'
      exact call_range_2 (range_it I1 q1 q2 q3 q4 q)

/-! ### for -/
/-- W: the invariant by the turn and a measure; N: what the body is to reach -/
def tFor (wi : TI) (g : TG) (tb : TS) : TS := fun D σ H => wi σ H fun J H1 => ∃ W : Nat → Nat → St → Hp → Prop, (∃ m, W 0 m σ H1) ∧ ∀ i m σ H, W i m σ H →
  (J.stop i H ∧ D.nx σ H) ∨ (J.go i H ∧ ∃ N : St → Hp → Prop, (∀ σ' H', N σ' H' → ∃ m', m' < m ∧ W (i + 1) m' σ' H') ∧ ∀ x H', J.yld i H x H' → g x σ H' fun σ2 H2 => tb { D with nx := N, ct := N, bk := D.nx } σ2 H2)
/-- the records at fp as they stand -/
def pinsAt (fp : List Addr) (h : Heap) : List (Addr × Obj) := fp.filterMap fun b => (h.get? b).map fun o => (b, o)
theorem mem_pinsAt {fp : List Addr} {h : Heap} {b : Addr} {o : Obj} (hb : b ∈ fp) (e : h.get? b = some o) : (b, o) ∈ pinsAt fp h := List.mem_filterMap.mpr ⟨b, hb, by rw [e]; rfl⟩
theorem of_pinsAt {fp : List Addr} {h : Heap} {p : Addr × Obj} (hp : p ∈ pinsAt fp h) : p.1 ∈ fp ∧ h.get? p.1 = some p.2 := by
  obtain ⟨b, hb, e⟩ := List.mem_filterMap.mp hp
  cases q : h.get? b with
  | none => rw [q] at e; cases e
  | some o =>
    rw [q] at e
    have e' : (b, o) = p := Option.some.inj e
    subst e'
    exact ⟨hb, q⟩
theorem Inv.pinned {pins : List (Addr × Obj)} {σ : St} {H : Hp} {s : Shared} {fp : List Addr} (I : Inv X pins σ H s) (hf : ∀ b ∈ fp, FpOk X pins H b) (ho : ∀ b ∈ fp, ∃ o, s.heap.get? b = some o ∧ ∀ v, o.data ≠ .cell v) : Inv X (pins ++ pinsAt fp s.heap) σ H s :=
  I.pins_of fun p hp => (List.mem_append.mp hp).elim (fun z => I.pin p (List.mem_append_right _ z)) fun z => by
    obtain ⟨hb, e⟩ := of_pinsAt z
    obtain ⟨f0, f1, f2, _⟩ := hf p.1 hb
    obtain ⟨o, e', d⟩ := ho p.1 hb
    rw [e] at e'; cases e'
    exact ⟨e, f0, f1, f2, d⟩
theorem Inv.unpinned {pins pl : List (Addr × Obj)} {σ : St} {H : Hp} {s : Shared} (I : Inv X (pins ++ pl) σ H s) : Inv X pins σ H s := I.pins_of fun p hp => I.pin p (List.mem_append_right _ (List.mem_append_left _ hp))
theorem ps_for {iter : Expr} {body : List Stmt} {wi : TI} {g : TG} {tb : TS} {pos : Pos} (hp : PassesOwn (model X.prog X.w) X.A X.env X.xe) (hc : X.calm = true) (hi : PI X tg iter wi) (hg : PG X tg g) (hb : PSs X body tb)
    (hs : ∀ x, foldedSetIterable iter X.env x = pure x := by intro _; rfl) : PS X (.For tg iter body [] pos) (tFor wi g tb) := by
  intro pins s σ H D I h
  refine wpAny_For (thn (hi pins s σ H _ I h) fun v s1 h1 => thn h1 fun itv s2 h2 => ?_) hs
  obtain ⟨it, fp, tn, J, H2, e, I2, T, st2, f2, W, ⟨m0, w0⟩, turn⟩ := h2
  subst e
  -- what stays true of the iterator's objects through the loop
  have stat : ∀ {H' : Hp}, (∀ b ∈ fp, H' b = none) → ∀ b ∈ fp, FpOk X pins H' b := fun hn b hb => ⟨hn b hb, (f2 b hb).2⟩
  refine codeAny_forLoop_any (fun n s' => ∃ i σ' H', Inv X pins σ' H' s' ∧ tn i s'.heap ∧ (∀ b ∈ fp, H' b = none) ∧ W i n σ' H') ?_ m0 ⟨0, σ, H2, I2, st2, fun b hb => (f2 b hb).1, w0⟩
  rintro n s3 ⟨i, σ3, H3, I3, st3, fr3, w3⟩
  rcases turn i n σ3 H3 w3 with ⟨stop, qn⟩ | ⟨go, N, hN, step⟩
  · refine wpAny_passesOwn hp (thn (T.done X rfl rfl rfl hc i pins s3 σ3 H3 X.xe I3 (stat fr3) st3 stop) fun r s4 ⟨hr, I4⟩ => ?_)
    subst hr
    exact wpAny_execs_nil ⟨σ3, H3, I4, qn⟩
  · refine wpAny_passesOwn hp (thn (T.item X rfl rfl rfl hc i pins s3 σ3 H3 X.xe I3 (stat fr3) st3 go) fun r s4 ⟨u, hr, h4⟩ => ?_)
    subst hr
    refine wpAny_passesOwn hp (thn h4 fun _ s5 ⟨x, H5, I5, r5, y5, st5, fr5⟩ => ?_)
    have I5' := I5.pinned (stat fr5) (T.obj _ _ st5)
    refine wpAny_passesOwn hp (thn (hg _ s5 σ3 H5 x u _ I5' r5 (step x H5 y5)) fun _ s6 ⟨σ6, H6, I6, q6⟩ => ?_)
    refine wpAny_passesOwn hp (thn (hb _ s6 σ6 H6 _ I6 q6) fun f s7 q7 => ?_)
    have again : ∀ {σ7 : St} {H7 : Hp}, Inv X (pins ++ pinsAt fp s5.heap) σ7 H7 s7 → N σ7 H7 → ∃ m, m < n ∧ ∃ i σ' H', Inv X pins σ' H' s7 ∧ tn i s7.heap ∧ (∀ b ∈ fp, H' b = none) ∧ W i m σ' H' := fun {σ7 H7} I7 n7 => by
      obtain ⟨m', hm, w7⟩ := hN σ7 H7 n7
      refine ⟨m', hm, i + 1, σ7, H7, I7.unpinned, T.keep _ _ _ st5 fun b hb o e => (I7.pin (b, o) (List.mem_append_right _ (List.mem_append_right _ (mem_pinsAt hb e)))).1, fun b hb => ?_, w7⟩
      obtain ⟨o, e, d⟩ := T.obj _ _ st5 b hb
      exact (I7.pin (b, o) (List.mem_append_right _ (List.mem_append_right _ (mem_pinsAt hb e)))).2.1
    cases f with
    | next => obtain ⟨σ7, H7, I7, n7⟩ := q7; exact again I7 n7
    | cont => obtain ⟨σ7, H7, I7, n7⟩ := q7; exact again I7 n7
    | brk => obtain ⟨σ7, H7, I7, q7⟩ := q7; exact ⟨σ7, H7, I7.unpinned, q7⟩
    | ret v => obtain ⟨x7, σ7, H7, I7, r7, q7⟩ := q7; exact ⟨x7, σ7, H7, I7.unpinned, r7, q7⟩
end

/-! ### the forms one uses -/
/-- over a list that the body leaves as it is -/
theorem for_list {K : PySem.W.Frag} {a : Addr} {xs : List V} {g : TG} {tb : TS} {D : Ends} {σ : St} {H : Hp} (Pv : Nat → St → Hp → Prop) (h0 : Pv 0 σ H) (hl : ∀ i σ H, i ≤ xs.length → Pv i σ H → SqL K H a xs)
    (hs : ∀ i x σ H, xs[i]? = some x → Pv i σ H → g x σ H fun σ2 H2 => tb { D with nx := Pv (i + 1), ct := Pv (i + 1), bk := D.nx } σ2 H2) (hd : ∀ σ H, Pv xs.length σ H → D.nx σ H) :
    ∃ W : Nat → Nat → St → Hp → Prop, (∃ m, W 0 m σ H) ∧ ∀ i m σ H, W i m σ H →
      ((Itl K a).stop i H ∧ D.nx σ H) ∨ ((Itl K a).go i H ∧ ∃ N : St → Hp → Prop, (∀ σ' H', N σ' H' → ∃ m', m' < m ∧ W (i + 1) m' σ' H') ∧ ∀ x H', (Itl K a).yld i H x H' → g x σ H' fun σ2 H2 => tb { D with nx := N, ct := N, bk := D.nx } σ2 H2) := by
  refine ⟨fun i m σ H => m = xs.length - i ∧ i ≤ xs.length ∧ Pv i σ H, ⟨xs.length, by simp, Nat.zero_le _, h0⟩, ?_⟩
  rintro i m σ H ⟨rfl, hi, p⟩
  have q := hl i σ H hi p
  by_cases hlt : i < xs.length
  · refine .inr ⟨⟨xs, xs[i], q, by simp [hlt]⟩, Pv (i + 1), fun σ' H' p' => ⟨xs.length - (i + 1), by omega, rfl, hlt, p'⟩, fun x H' y => ?_⟩
    obtain ⟨e, y⟩ := y
    subst e
    exact hs i x σ _ (y xs q) p
  · have e : i = xs.length := by omega
    subst e
    exact .inl ⟨⟨xs, q, Nat.le_refl _⟩, hd σ H p⟩
end L2

namespace L2
open PySem PySem.Spec PyProof.Rows

abbrev R2 := V → V → Hp → VK → Prop
/-- a two-place operation on values: f is binaryOp op, inplaceOp op or compareOp op -/
def OpR (X : Cx) (f : Value → Value → Sem Value) (r : R2) : Prop :=
  ∀ (pins : List (Addr × Obj)) (s : Shared) (σ : St) (H : Hp) (x y : V) (v u : Value) (Q : VK), Inv X pins σ H s → RelV x v → RelV y u → r x y H Q →
    wpAny (model X.prog X.w) X.A (f v u) (EP X pins σ Q) X.xe s
/-- a one-place operation -/
def UnR (X : Cx) (f : Value → Sem Value) (r : V → Hp → VK → Prop) : Prop :=
  ∀ (pins : List (Addr × Obj)) (s : Shared) (σ : St) (H : Hp) (x : V) (v : Value) (Q : VK), Inv X pins σ H s → RelV x v → r x H Q →
    wpAny (model X.prog X.w) X.A (f v) (EP X pins σ Q) X.xe s
/-- a call of a value that is known (a builtin, a type) with values -/
def CallR (X : Cx) (f : Value) (r : List V → Hp → VK → Prop) : Prop :=
  ∀ (pins : List (Addr × Obj)) (s : Shared) (σ : St) (H : Hp) (xs : List V) (us : List Value) (Q : VK), Inv X pins σ H s → Vals xs us → r xs H Q →
    wpAny (model X.prog X.w) X.A (call f us) (EP X pins σ Q) X.xe s

def tOp (r : R2) (ta tb : TE) : TE := fun σ H Q => ta σ H fun x H1 => tb σ H1 fun y H2 => r x y H2 Q
def tUn (r : V → Hp → VK → Prop) (ta : TE) : TE := fun σ H Q => ta σ H fun x H1 => r x H1 Q
/-- ints in, under C, and a value out -/
def rI (C : Int → Int → Prop) (g : Int → Int → V) : R2 := fun x y H Q => ∃ i j, x = .int i ∧ y = .int j ∧ C i j ∧ Q (g i j) H
def rI0 (g : Int → Int → V) : R2 := fun x y H Q => ∃ i j, x = .int i ∧ y = .int j ∧ Q (g i j) H
def rU (g : Int → V) : V → Hp → VK → Prop := fun x H Q => ∃ i, x = .int i ∧ Q (g i) H

section
variable {X : Cx} {a b c : Expr} {ta tb tc : TE} {pos : Pos}

theorem binT (ha : PE X a ta) (hb : PE X b tb) {pins : List (Addr × Obj)} {s : Shared} {σ : St} {H : Hp} {R : V → V → Hp → Prop} (I : Inv X pins σ H s)
    (h : ta σ H fun x H1 => tb σ H1 fun y H2 => R x y H2) {Q : Value → Shared → Prop} {f : Value → Value → Sem Value}
    (hf : ∀ v u s2 x y H2, Inv X pins σ H2 s2 → RelV x v → RelV y u → R x y H2 → wpAny (model X.prog X.w) X.A (f v u) Q X.xe s2) :
    wpAny (model X.prog X.w) X.A (eval a X.env) (fun v s₁ => wpAny (model X.prog X.w) X.A (eval b X.env) (fun u s₂ => wpAny (model X.prog X.w) X.A (f v u) Q X.xe s₂) X.xe s₁) X.xe s := by
  refine thn (ha pins s σ H _ I h) fun v s1 ⟨x, H1, I1, r1, q1⟩ => ?_
  refine thn (hb pins s1 σ H1 _ I1 q1) fun u s2 ⟨y, H2, I2, r2, q2⟩ => ?_
  exact hf v u s2 x y H2 I2 r1 r2 q2

theorem pe_op {op : Operator} {r : R2} (ho : OpR X (binaryOp op) r) (ha : PE X a ta) (hb : PE X b tb) : PE X (.BinOp a op b pos) (tOp r ta tb) := by
  intro pins s σ H Q I h
  exact wpAny_BinOp (binT ha hb I h fun v u s2 x y H2 I2 rx ry q => ho pins s2 σ H2 x y v u Q I2 rx ry q)
theorem pe_un {op : UnaryOp} {r : V → Hp → VK → Prop} (ho : UnR X (unaryOp op) r) (ha : PE X a ta) : PE X (.UnaryOp op a pos) (tUn r ta) := by
  intro pins s σ H Q I h
  exact UnaryOp_ (thn (ha pins s σ H _ I h) fun v s1 ⟨x, H1, I1, r1, q1⟩ => ho pins s1 σ H1 x v Q I1 r1 q1)

/-! ### ints -/
theorem opI {f : Value → Value → Sem Value} {C : Int → Int → Prop} {g : Int → Int → Int}
    (rule : ∀ (i j : Int) (t u : Tok) (s : Shared) (Q : Value → Shared → Prop) (E : Value → Shared → Prop), C i j → Q (.int (g i j) s.toks) { s with toks := s.toks + 1 } → wpAny (model X.prog X.w) X.A (f (.int i t) (.int j u)) Q E s) :
    OpR X f (rI C fun i j => .int (g i j)) := by
  intro pins s σ H x y v u Q I rx ry h
  obtain ⟨i, j, rfl, rfl, hc, q⟩ := h
  obtain ⟨t, rfl⟩ := rx
  obtain ⟨t', rfl⟩ := ry
  exact rule i j t t' s _ _ hc ⟨.int (g i j), H, I.tok _, ⟨_, rfl⟩, q⟩
theorem opI0 {f : Value → Value → Sem Value} {g : Int → Int → Int}
    (rule : ∀ (i j : Int) (t u : Tok) (s : Shared) (Q : Value → Shared → Prop) (E : Value → Shared → Prop), Q (.int (g i j) s.toks) { s with toks := s.toks + 1 } → wpAny (model X.prog X.w) X.A (f (.int i t) (.int j u)) Q E s) :
    OpR X f (rI0 fun i j => .int (g i j)) := by
  intro pins s σ H x y v u Q I rx ry h
  obtain ⟨i, j, rfl, rfl, q⟩ := h
  obtain ⟨t, rfl⟩ := rx
  obtain ⟨t', rfl⟩ := ry
  exact rule i j t t' s _ _ ⟨.int (g i j), H, I.tok _, ⟨_, rfl⟩, q⟩

def CMul (i j : Int) : Prop := (-(2 ^ 64) < i ∧ i < 2 ^ 64) ∨ (-(2 ^ 64) < j ∧ j < 2 ^ 64)
theorem CMul.ok {i j : Int} (h : CMul i j) : IntMulOk i j := by
  rcases h with ⟨h1, h2⟩ | ⟨h1, h2⟩
  · exact .of_left (intBits_le_64 h1 h2)
  · exact .of_right (intBits_le_64 h1 h2)

theorem op_add : OpR X (binaryOp .Add) (rI0 fun i j => .int (i + j)) := opI0 fun _ _ _ _ _ _ _ q => add_int q
theorem op_sub : OpR X (binaryOp .Sub) (rI0 fun i j => .int (i - j)) := opI0 fun _ _ _ _ _ _ _ q => sub_int q
theorem op_mul : OpR X (binaryOp .Mult) (rI CMul fun i j => .int (i * j)) := opI fun _ _ _ _ _ _ _ hc q => mul_int q hc.ok
/-- % by a positive divisor of any size -/
theorem op_mod : OpR X (binaryOp .Mod) (rI (fun _ j => 0 < j) fun i j => .int (i % j)) := opI fun i j _ _ _ _ _ hc q => by
  have h1 : (0 : Int) < j := hc
  exact mod_int' (by omega) (by rw [Int.fmod_eq_emod_of_nonneg i (by omega)]; exact q)


theorem unI {f : Value → Sem Value} {g : Int → Int}
    (rule : ∀ (i : Int) (t : Tok) (s : Shared) (Q : Value → Shared → Prop) (E : Value → Shared → Prop), Q (.int (g i) s.toks) { s with toks := s.toks + 1 } → wpAny (model X.prog X.w) X.A (f (.int i t)) Q E s) :
    UnR X f (rU fun i => .int (g i)) := by
  intro pins s σ H x v Q I rx h
  obtain ⟨i, rfl, q⟩ := h
  obtain ⟨t, rfl⟩ := rx
  exact rule i t s _ _ ⟨.int (g i), H, I.tok _, ⟨_, rfl⟩, q⟩
theorem un_neg : UnR X (unaryOp .USub) (rU fun i => .int (-i)) := unI fun _ _ _ _ _ q => neg_int q

/-! ### bools among ints: n += (a < b) -/
end

/-! ### comparisons -/


section
variable {X : Cx} {a b c : Expr} {ta tb tc : TE} {pos : Pos}




/-- two rules for one operation: by cases -/
theorem OpR.or {f : Value → Value → Sem Value} {r r' : R2} (h : OpR X f r) (h' : OpR X f r') : OpR X f (fun x y H Q => r x y H Q ∨ r' x y H Q) := by
  intro pins s σ H x y v u Q I rx ry q
  rcases q with q | q
  · exact h pins s σ H x y v u Q I rx ry q
  · exact h' pins s σ H x y v u Q I rx ry q


/-! ### truth -/
theorem line63 : (sizeLine : Nat) < 2 ^ 63 := by rw [sizeLine_eq]; decide

/-! ### strs and bytes -/


/-! ### scalar builtins, by CallR -/
theorem vals1 {x : V} {us : List Value} (r : Vals [x] us) : ∃ u, us = [u] ∧ RelV x u := by
  cases r with
  | cons r1 r2 => cases r2; exact ⟨_, rfl, r1⟩
end
end L2

namespace L2
open PySem PySem.Spec PyProof.Rows

/-! ### an instance, its attributes a map -/
structure ObjM (h : Heap) (x dx C : Addr) (mA : Str → Option Value) : Prop where
  obj : h.get? x = some (PySem.W.instObj C dx)
  ns : h.Ns1 dx mA
  ne : dx ≠ x

theorem lookIn_ns {h : Heap} {dx : Addr} {mA : Str → Option Value} (n : h.Ns1 dx mA) : ∃ od, h.get? dx = some od ∧ ∀ name, PySem.W.lookIn name od = some (mA name) := by
  obtain ⟨o, es, ep, ho, hd, hk, _, hm⟩ := n
  refine ⟨o, ho, fun name => ?_⟩
  have e := hm name
  unfold nsFind findBy at e
  rw [← Array.find?_toList] at e
  unfold PySem.W.lookIn
  rw [hd]
  dsimp only
  split
  · rename_i y q
    rw [q] at e
    exact congrArg some e
  · rename_i q
    rw [q] at e
    have a : es.toList.any (·.refKey) = false := by
      rw [List.any_eq_false]
      intro y hy
      obtain ⟨z, t, hkey⟩ := hk y (Array.mem_toList_iff.mp hy)
      simp [DictEntry.refKey, hkey]
    have a' : ¬ es.toList.any (·.refKey) = true := by rw [a]; exact Bool.false_ne_true
    rw [if_neg a']
    exact congrArg some e

theorem ObjM.look {h : Heap} {x dx C : Addr} {mA : Str → Option Value} (I : ObjM h x dx C mA) : ∃ od, PySem.W.InstAt h x (PySem.W.instObj C dx) C (some od) ∧ ∀ name, PySem.W.lookIn name od = some (mA name) :=
  let ⟨od, ho, hl⟩ := lookIn_ns I.ns
  ⟨od, ⟨I.obj, rfl, rfl, ho⟩, hl⟩

section
variable {prog : Program} {w : World} {A : Around} {E : Value → Shared → Prop} {s : Shared} {K : PySem.W.Frag} {x dx C f : Addr} {mA : Str → Option Value} {name : Str} {v : Value}





end

/-! ### the attributes as a list of pairs -/


section
variable {P : Program} {w : World} {H H' : Hp} {h h' : Heap} {a C dx : Addr} {fs fs' : List (Str × V)}
end

/-! ### what of the text a class must have -/
structure Cls (K : PySem.W.Frag) (C : Addr) : Prop where
  pg : PySem.W.plainGet K C Str.empty = true
  hd : PySem.W.hasDictIn K C = true
  po : PySem.W.plainOver K C = true
  sa : PySem.W.findIn K (.ref C) "__setattr__" = some (some (.builtin "object.__setattr__"))
theorem Cls.get {K : PySem.W.Frag} {C : Addr} (c : Cls K C) (f : Str) : PySem.W.plainGet K C f = true := c.pg

section
variable {X : Cx} {pins : List (Addr × Obj)} {σ : St} {H : Hp} {s : Shared} {a C dx : Addr} {fs : List (Str × V)} {f : Str} {v : V} {A : Around} {E : Value → Shared → Prop}





/-- a new instance, tracked, without attributes -/
theorem Inv.made (I : Inv X pins σ H s) : Inv X pins σ (upd (upd H s.heap.objs.size (.own (s.heap.objs.size + 1))) (s.heap.objs.size + 1) (.ins C s.heap.objs.size []))
    { s with heap := (s.heap.push PySem.W.emptyDict).push (PySem.W.instObj C s.heap.objs.size) } := by
  have e1 : (s.heap.push PySem.W.emptyDict).get? s.heap.objs.size = some PySem.W.emptyDict := Heap.get?_push_size s.heap rfl
  have e2 : ((s.heap.push PySem.W.emptyDict).push (PySem.W.instObj C s.heap.objs.size)).get? (s.heap.objs.size + 1) = some (PySem.W.instObj C s.heap.objs.size) := by
    have := Heap.get?_push_size (s.heap.push PySem.W.emptyDict) (o := PySem.W.instObj C s.heap.objs.size) rfl
    rwa [Heap.size_push] at this
  have e3 : (s.heap.push PySem.W.emptyDict).Ns s.heap.objs.size (fun _ => none) := ⟨PySem.W.emptyDict, #[], _, e1, rfl, (fun e he => absurd he (by simp)), fun _ => rfl⟩
  have I1 := I.laid (a := s.heap.objs.size) (o := .own (s.heap.objs.size + 1)) (h' := s.heap.push PySem.W.emptyDict) (t' := s.toks) (fun b u q => Heap.get?_push_of_some _ q) (Nat.le_refl _) ⟨_, e1⟩
  refine I1.laid (a := s.heap.objs.size + 1) (o := .ins C s.heap.objs.size []) (t' := s.toks) (fun b u q => Heap.get?_push_of_some _ q) (Nat.le_of_eq (Heap.size_push _ _)) ?_
  have ne : s.heap.objs.size ≠ s.heap.objs.size + 1 := Nat.ne_of_lt (Nat.lt_succ_self _)
  refine ⟨by rw [upd_ne ne, upd_same], Nat.zero_le _, ne, e2, fun _ => none, (Heap.Ns1.of_empty e3).at fun o q => Heap.get?_push_of_some _ q, fun _ => True.intro, fun y hy => absurd rfl hy⟩

end

/-! ### readings and rules -/

section
variable {X : Cx} {o e value : Expr} {f : Str} {pos pos' tpos : Pos} {ta tv : TE}

end

/-! ### isinstance -/
section
variable {X : Cx} {pins : List (Addr × Obj)} {σ : St} {H : Hp} {s : Shared} {A : Around} {E : Value → Shared → Prop} {Q : Value → Shared → Prop} {c : Value} {b : Bool}
end
end L2

namespace L2
open PySem PySem.Spec PyProof.Rows

/-! ### room -/
structure Room (k : Nat) (A : Around) : Prop where
  hd : A.handled = none
  dp : A.depth + 3 * k + 5 < recursionLimit
  un : A.units + 16 * k + 200 < cLine
theorem Room.mono {j k : Nat} {A : Around} (r : Room k A) (h : j ≤ k) : Room j A := ⟨r.hd, by have := r.dp; omega, by have := r.un; omega⟩
theorem Room.deeper {k : Nat} {A : Around} (r : Room (k + 1) A) (env : Env) : Room k (A.deeper env) :=
  ⟨r.hd, by have := r.dp; show A.depth + 1 + 3 * k + 5 < _; omega, by have := r.un; show A.units + 3 + 16 * k + 200 < _; omega⟩
theorem Room.depth {k : Nat} {A : Around} (r : Room k A) : A.depth < recursionLimit := by have := r.dp; omega
theorem Room.units {k : Nat} {A : Around} (r : Room k A) : A.units + 64 < cLine := by have := r.un; omega

/-! ### argument lists and displays -/
def tNil : TA := fun _ H Q => Q [] H
def tCons (ta : TE) (tr : TA) : TA := fun σ H Q => ta σ H fun x H1 => tr σ H1 fun xs H2 => Q (x :: xs) H2
section
variable {X : Cx} {e : Expr} {es : List Expr} {te : TE} {t : TA} {pos : Pos}
theorem pa_nil : PA X [] tNil := fun _ _ _ _ H Q I h => Calls.spliced_nil ⟨[], H, I, .nil, h⟩
theorem pa_cons (ha : PE X e te) (hr : PA X es t) (hs : starEach (e :: es) X.env = (false, eval e X.env) :: starEach es X.env := by rfl) : PA X (e :: es) (tCons te t) := by
  intro pos pins s σ H Q I h
  rw [hs]
  show wpAny _ _ (spliced ((false, eval e X.env) :: backTo pos (starEach es X.env))) _ _ s
  refine Calls.spliced_cons (thn (ha pins s σ H _ I h) fun u s1 ⟨x, H1, I1, r1, q1⟩ => ?_)
  exact thn (hr pos pins s1 σ H1 _ I1 q1) fun us s2 ⟨xs, H2, I2, r2, q2⟩ => ⟨x :: xs, H2, I2, .cons r1 r2, q2⟩

/-- a tuple, a list of written items -/
def tTup (t : TA) : TE := fun σ H Q => t σ H fun xs H1 => xs.length ≤ sizeLine ∧ ∀ p, H1 p = none → Q (.ref p) (upd H1 p (.tup xs))
def tLst (t : TA) : TE := fun σ H Q => t σ H fun xs H1 => xs.length ≤ sizeLine ∧ ∀ p, H1 p = none → Q (.ref p) (upd H1 p (.lst xs))
theorem pe_tup {x1} (h : PA X es t) : PE X (.Tuple es x1 pos) (tTup t) := by
  intro pins s σ H Q I hq
  refine wpAny_Tuple_spliced (thn (h pos pins s σ H _ I hq) fun us s1 ⟨xs, H1, I1, r, z, q⟩ => ⟨by rw [← r.length]; exact z, ?_⟩)
  have hf : H1 s1.heap.objs.size = none := I1.hok.fresh (Nat.le_refl _)
  refine ⟨.ref s1.heap.objs.size, upd H1 s1.heap.objs.size (.tup xs), I1.laid (t' := s1.toks) (fun b u e => Heap.get?_push_of_some _ e) (Nat.le_refl _) ?_, rfl, q _ hf⟩
  exact ⟨z, us, r, ⟨_, Heap.get?_push_size _ rfl, rfl, _, rfl⟩⟩
theorem pe_lst (h : PA X es t) : PE X (.List es pos) (tLst t) := by
  intro pins s σ H Q I hq
  refine wpAny_List_spliced (thn (h pos pins s σ H _ I hq) fun us s1 ⟨xs, H1, I1, r, z, q⟩ => ⟨by rw [← r.length]; exact z, ?_⟩)
  have hf : H1 s1.heap.objs.size = none := I1.hok.fresh (Nat.le_refl _)
  refine ⟨.ref s1.heap.objs.size, upd H1 s1.heap.objs.size (.lst xs), I1.laid (t' := s1.toks) (fun b u e => Heap.get?_push_of_some _ e) (Nat.le_refl _) ?_, rfl, q _ hf⟩
  exact ⟨z, us, 0, r, Heap.get?_push_size _ rfl⟩
end

/-! ### what a def promises -/
/-- a def's promise: the bound arguments in the parameters' order, the heap, the wanted end, the wanted exception -/
abbrev Sp := List V → Hp → VK → XK → Prop
/-- how an exception lies behind a call (file 08 gives it): the callers' frames, abstract heap and state ahead of the call, the wish, the exception, the state -/
abbrev CXT := List Env → Hp → Shared → XK → Value → Shared → Prop

/-- the state at a call -/
structure Env0 (P : Program) (w : World) (K : PySem.W.Frag) (mg : Str → Option Value) (base : Heap) (A : Around) (outer : List Env) (s : Shared) (H : Hp) : Prop where
  frames : A.frames = some outer
  mod : Mod K mg base
  bs : ∀ b o, base.get? b = some o → s.heap.get? b = some o ∧ H b = none
  bsz : base.objs.size ≤ s.heap.objs.size
  funs : s.heap.FunFrames base outer
  frf : ∀ b ∈ frs outer, H b = none
  hok : HOk P w H s.heap
  bare : AllBare s.gens
/-- a call's end -/
def CE (outer : List Env) (P : Program) (w : World) (H : Hp) (s : Shared) (Q : VK) (u : Value) (s' : Shared) : Prop :=
  ∃ v H', s'.os = s.os ∧ AllBare s'.gens ∧ Un (frs outer) [] H H' s.heap s'.heap ∧ HOk P w H' s'.heap ∧ RelV v u ∧ Q v H'
def CR (CX : CXT) (outer : List Env) (P : Program) (w : World) (H : Hp) (s : Shared) (Q : VK) (E : XK) (r : Result) (s' : Shared) : Prop :=
  match r with
  | .ok (.ret u) => CE outer P w H s Q u s'
  | .ok _ => False
  | .error e => CX outer H s E e s'
structure FnOk (P : Program) (w : World) (K : PySem.W.Frag) (mg : Str → Option Value) (base : Heap) (CX : CXT) (k : Nat) (f : Addr) (fd : FuncData) (ps : List Str) (sp : Sp) : Prop where
  len : ∀ vs H Q E, sp vs H Q E → vs.length = ps.length
  run : ∀ (A : Around) (outer : List Env) (s : Shared) (H : Hp) (args : Args) (us : List Value) (vs : List V) (Q : VK) (E : XK), Room k A → Env0 P w K mg base A outer s H → BindsTo s fd args (ps.zip us) → Vals vs us → sp vs H Q E →
    codeAny (model P w) A (.call (.ref f) args) (CR CX outer P w H s Q E) s
theorem FnOk.mono {P : Program} {w : World} {K : PySem.W.Frag} {mg : Str → Option Value} {base : Heap} {CX : CXT} {j k : Nat} {f : Addr} {fd : FuncData} {ps : List Str} {sp : Sp} (F : FnOk P w K mg base CX j f fd ps sp) (h : j ≤ k) :
    FnOk P w K mg base CX k f fd ps sp := ⟨F.len, fun A outer s H args us vs Q E hr => F.run A outer s H args us vs Q E (hr.mono h)⟩
/-- a weaker promise -/
theorem FnOk.imp {P : Program} {w : World} {K : PySem.W.Frag} {mg : Str → Option Value} {base : Heap} {CX : CXT} {k : Nat} {f : Addr} {fd : FuncData} {ps : List Str} {sp sp' : Sp} (F : FnOk P w K mg base CX k f fd ps sp)
    (h : ∀ vs H Q E, sp' vs H Q E → sp vs H Q E) : FnOk P w K mg base CX k f fd ps sp' :=
  ⟨fun vs H Q E q => F.len vs H Q E (h _ _ _ _ q), fun A outer s H args us vs Q E hr he hb hv hs => F.run A outer s H args us vs Q E hr he hb hv (h _ _ _ _ hs)⟩


section
variable {X : Cx} {pins : List (Addr × Obj)} {σ : St} {H : Hp} {s s' : Shared}
/-- from a body: what a callee wants -/
theorem Inv.env0 (I : Inv X pins σ H s) : Env0 X.prog X.w X.K X.mg X.base X.A X.stack s H :=
  ⟨I.ok.frames, I.ok.mod, I.bs, Nat.le_trans I.ok.bsz I.sz, I.stack, I.stkFree, I.hok, I.bare⟩
/-- behind a call -/
theorem Inv.after {Q : VK} {u : Value} (I : Inv X pins σ H s) (h : CE X.stack X.prog X.w H s Q u s') : EP X pins σ Q u s' := by
  obtain ⟨v, H', os, bare, un, hok, r, q⟩ := h
  obtain ⟨hh, g, d, t, os'⟩ := s'
  obtain rfl : os' = s.os := os
  exact ⟨v, H', I.call (h' := hh) (g' := g) (d' := d) (t' := t) (ch := []) un hok bare (fun b z => absurd z (by simp)), r, q⟩
end

/-! ### calls -/
/-- f(..): the written arguments, then the defaults dvs; E: what is wanted of an exception -/
def tCall (sp : Sp) (dvs : List V) (E : XK) (t : TA) : TE := fun σ H Q => t σ H fun vs H1 => sp (vs ++ dvs) H1 Q E

/-- how the parameters are bound: us the positional arguments, kw the keywords' values by name, ds the defaults that fill up -/
def Binds (K : PySem.W.Frag) (fd : FuncData) (ps : List Str) (ds : List Value) : Prop :=
  ∀ (s : Shared) (us : List Value), K.In s.heap → (us ++ ds).length = ps.length → BindsTo s fd ⟨us, []⟩ (ps.zip (us ++ ds))
/-- every parameter is given -/
theorem Binds.all {K : PySem.W.Frag} {fd : FuncData} {ps : List Str} (h : ∀ us : List Value, us.length = ps.length → bindArgs fd ⟨us, []⟩ = pure (ps.zip us)) : Binds K fd ps [] := fun s us _ hl => by
  rw [List.append_nil] at hl ⊢
  exact .of_eq (h us hl)

/-- an exception of a callee reaches what this body wants of exceptions -/
def Passes (CX : CXT) (X : Cx) (E : XK) : Prop := ∀ (pins : List (Addr × Obj)) (σ : St) (H : Hp) (s : Shared) (e : Value) (s' : Shared), Inv X pins σ H s → CX X.stack H s E e s' → X.xe e s'

section
variable {X : Cx} {CX : CXT} {k : Nat} {f C : Addr} {fd : FuncData} {ps : List Str} {sp : Sp} {dvs : List V} {ds : List Value} {E : XK} {x m : Str} {p pos apos : Pos} {e o : Expr} {es : List Expr} {ta : TE} {t : TA}

/-- the callee runs -/
theorem run_fn {pins : List (Addr × Obj)} {σ : St} {H : Hp} {s : Shared} {Q : VK} {us : List Value} {vs : List V} (F : FnOk X.prog X.w X.K X.mg X.base CX k f fd ps sp) (hr : Room k X.A) (hb : Binds X.K fd ps ds) (hd : Vals dvs ds) (hx : Passes CX X E)
    (I : Inv X pins σ H s) (r : Vals vs us) (h : sp (vs ++ dvs) H Q E) : wpAny (model X.prog X.w) X.A (call (.ref f) us) (EP X pins σ Q) X.xe s := by
  have r2 : Vals (vs ++ dvs) (us ++ ds) := r.append hd
  have hl : (us ++ ds).length = ps.length := by rw [← r2.length]; exact F.len _ _ _ _ h
  refine wpAny_call (codeAny_mono (F.run X.A X.stack s H ⟨us, []⟩ (us ++ ds) (vs ++ dvs) Q E hr I.env0 (hb s us I.kIn hl) r2 h) fun r s' hq => ?_)
  cases r with
  | error e => exact hx pins σ H s e s' I hq
  | ok fl =>
    cases fl with
    | ret u => exact I.after hq
    | next => exact False.elim hq
    | brk => exact False.elim hq
    | cont => exact False.elim hq

theorem pe_call (F : FnOk X.prog X.w X.K X.mg X.base CX k f fd ps sp) (hr : Room k X.A) (hg : Gl X x) (hm : X.mg x = some (.ref f)) (hk : PySem.W.keepIn X.K (.ref f) = true) (hb : Binds X.K fd ps ds) (hd : Vals dvs ds) (hx : Passes CX X E)
    (ha : PA X (e :: es) t) (hdb : (x == ("__debug__" : Str)) = false := by decide) (he : starEach (e :: es) X.env = (false, eval e X.env) :: starEach es X.env := by rfl) (hpl : (backTo pos (starEach es X.env)).any (·.1) = false := by rfl) :
    PE X (.Call (.Name x p) (e :: es) [] pos) (tCall sp dvs E t) := by
  intro pins s σ H Q I h
  refine wpAny_Call_Name_kw (ld_glob I hg hm ?_ hdb)
  refine PySem.W.callWith_K (h₀ := X.base) I.ok.mod.kin hk (thn (ha pos pins s σ H _ I h) fun us s1 ⟨vs, H1, I1, r, q⟩ => ⟨I1.kIn, ?_⟩) he hpl
  exact run_fn F hr hb hd hx I1 r q



end

/-! ### keywords -/
section
variable {X : Cx} {CX : CXT} {k : Nat} {f C : Addr} {fd : FuncData} {ps ks : List Str} {sp : Sp} {E : XK} {x m : Str} {p pos apos kpos : Pos} {e o : Expr} {es : List Expr} {kws : List Keyword} {te ta : TE} {t tk : TA} {nm : Option Str}

variable {g : List Value → List Value → List Value} {gV : List V → List V → List V}
end

/-! ### a def's body keeps its promise -/
/-- names: the parameters first -/
structure FnScope (N P : List Str) (sc : Scope) : Prop where
  kind : sc.kind = .function
  co : sc.isCoroutine = false
  gen : sc.isGenerator = false
  nd : N.Nodup
  pre : N.take P.length = P
  par : ∀ x ∈ P, sc.names.lookup x = some .local ∨ sc.names.lookup x = some .cell
  nofree : ∀ y ∈ sc.names, y.2 ≠ .free

theorem bindL_out {kindOf : Str → Option NameKind} {x : Str} : ∀ {binds : List (Str × Value)} {m : Str → Option Value}, (∀ v, (x, v) ∉ binds) → bindL kindOf binds m x = m x
  | [], _, _ => rfl
  | (n, v) :: r, m, h => by
    unfold bindL
    rw [bindL_out fun w hw => h w (List.mem_cons_of_mem _ hw)]
    split
    · have : x ≠ n := by rintro rfl; exact h v List.mem_cons_self
      simp [this]
    · rfl
theorem bindC_out {kindOf : Str → Option NameKind} {x : Str} : ∀ {binds : List (Str × Value)} {m : Str → Option Value}, (∀ v, (x, v) ∉ binds) → bindC kindOf binds m x = m x
  | [], _, _ => rfl
  | (n, v) :: r, m, h => by
    unfold bindC
    rw [bindC_out fun w hw => h w (List.mem_cons_of_mem _ hw)]
    split
    · rfl
    · have : x ≠ n := by rintro rfl; exact h v List.mem_cons_self
      simp [this]
theorem bindL_get {kindOf : Str → Option NameKind} {x : Str} {v : Value} : ∀ {P : List Str} {vs : List Value} {i : Nat} {m : Str → Option Value}, P.Nodup → P[i]? = some x → vs[i]? = some v → kindOf x = some .local →
    bindL kindOf (P.zip vs) m x = some v
  | [], _, _, _, _, h, _, _ => by simp at h
  | _ :: _, [], _, _, _, _, h, _ => by simp at h
  | p :: P, w :: vs, 0, m, nd, h1, h2, hk => by
    simp at h1 h2; subst h1; subst h2
    show bindL kindOf ((p, w) :: P.zip vs) m p = _
    unfold bindL
    rw [bindL_out fun v hv => (List.nodup_cons.mp nd).1 (List.of_mem_zip hv).1, if_pos hk]
    simp
  | p :: P, w :: vs, i + 1, m, nd, h1, h2, hk => by
    show bindL kindOf ((p, w) :: P.zip vs) m x = _
    unfold bindL
    exact bindL_get (i := i) (List.nodup_cons.mp nd).2 (by simpa using h1) (by simpa using h2) hk
theorem bindC_get {kindOf : Str → Option NameKind} {x : Str} {v : Value} : ∀ {P : List Str} {vs : List Value} {i : Nat} {m : Str → Option Value}, P.Nodup → P[i]? = some x → vs[i]? = some v → kindOf x ≠ some .local →
    bindC kindOf (P.zip vs) m x = some v
  | [], _, _, _, _, h, _, _ => by simp at h
  | _ :: _, [], _, _, _, _, h, _ => by simp at h
  | p :: P, w :: vs, 0, m, nd, h1, h2, hk => by
    simp at h1 h2; subst h1; subst h2
    show bindC kindOf ((p, w) :: P.zip vs) m p = _
    unfold bindC
    rw [bindC_out fun v hv => (List.nodup_cons.mp nd).1 (List.of_mem_zip hv).1, if_neg hk]
    simp
  | p :: P, w :: vs, i + 1, m, nd, h1, h2, hk => by
    show bindC kindOf ((p, w) :: P.zip vs) m x = _
    unfold bindC
    exact bindC_get (i := i) (List.nodup_cons.mp nd).2 (by simpa using h1) (by simpa using h2) hk

/-- the names' values at the entry -/
def start (N : List Str) (vs : List V) : St := vs.map some ++ List.replicate (N.length - vs.length) none

/-- the context of a def's body, at its entry; an exception leaves the frame, then lies as CX says -/
def cxOf (CX : CXT) (P : Program) (w : World) (K : PySem.W.Frag) (mg : Str → Option Value) (base : Heap) (N : List Str) (qual : Str) (scope : Scope) (f : Addr) (cd : Value) (A : Around) (outer : List Env) (s : Shared) (H : Hp) (E : XK) : Cx where
  prog := P
  w := w
  K := K
  mg := mg
  base := base
  A := A.deeper (envOfC qual scope s.heap.objs.size f cd)
  N := N
  s_0 := s
  H_0 := H
  env := envOfC qual scope s.heap.objs.size f cd
  outer := outer
  stack := envOfC qual scope s.heap.objs.size f cd :: outer
  ex := []
  calm := true
  fn := fun _ => true
  pn := []
  xe := fun e s' => wpAny (model P w) (A.deeper (envOfC qual scope s.heap.objs.size f cd)) (leaving (envOfC qual scope s.heap.objs.size f cd) e) (fun _ s'' => CX outer H s E e s'') (fun e' s'' => CX outer H s E e' s'') s'

theorem cell_has {sc : Scope} {n : Nat} {x : Str} (h : sc.names.lookup x = some .cell) : ∃ c, (cellsFrom n sc.names []).lookup x = some c := by
  have q := PySem.W.cellsFrom_some sc.names n [] (.inl h)
  exact Option.isSome_iff_exists.mp q

theorem inv_start {CX : CXT} {P : Program} {w : World} {K : PySem.W.Frag} {mg : Str → Option Value} {base : Heap} {N ps : List Str} {qual : Str} {scope : Scope} {f : Addr} {cd : Value} {A : Around} {outer : List Env} {s s1 : Shared} {H : Hp} {E : XK} {us : List Value} {vs : List V}
    (S : FnScope N ps scope) (hd : A.handled = none) (e0 : Env0 P w K mg base A outer s H) (hl : vs.length = ps.length) (r : Vals vs us)
    (x : InCallC s s.heap.objs.size (bindL (envOfC qual scope s.heap.objs.size f cd).kindOf (ps.zip us) fun _ => none) (cellsFrom (s.heap.objs.size + 1) scope.names []) (bindC (envOfC qual scope s.heap.objs.size f cd).kindOf (ps.zip us) fun _ => none) s1) :
    Inv (cxOf CX P w K mg base N qual scope f cd A outer s H E) [] (start N vs) H s1 := by
  have hpl : ps.length ≤ N.length := by have := congrArg List.length S.pre; rw [List.length_take] at this; omega
  obtain ⟨h1, tk, rfl, hk⟩ := x.done
  have noA : ∀ b : Addr, b ∉ (cxOf CX P w K mg base N qual scope f cd A outer s H E).ex := fun b z => absurd (show b ∈ ([] : List Addr) from z) (by simp)
  refine ⟨⟨e0.mod, S.kind, rfl, rfl, Nat.le_refl _, fun y z c h1 h2 => ?_, fun y hy => ?_, fun y c _ h => ?_, fun _ => hd, Around.frames_deeper e0.frames, .inr ⟨rfl, rfl⟩, fun b z => absurd z (noA b), e0.bs, e0.bsz, fun b _ _ => noA b, fun b z => absurd z (noA b), e0.funs, e0.frf⟩,
    rfl, e0.bare, Un.kept hk, ⟨_, x.toInCall.ns, fun i y v h1 h2 h3 => ?_⟩, fun y c h => ⟨_, x.cell y c h⟩, e0.hok.fresh (Nat.le_refl _), fun y c h => ?_, fun p hp => absurd (show p ∈ ([] : List (Addr × Obj)) from hp) (by simp), e0.hok.kept hk, ?_⟩
  · exact name_of_addr x.apart (PySem.mem_of_lookup h1) (PySem.mem_of_lookup h2)
  · have hy : scope.names.lookup y = some .cell ∨ scope.names.lookup y = some .free := hy
    rcases hy with hy | hy
    · exact cell_has hy
    · exact absurd rfl (S.nofree _ (PySem.mem_of_lookup hy))
  · exact Nat.le_of_lt (x.above y c (PySem.mem_of_lookup h))
  · have hi : i < vs.length := by
      unfold start at h2
      by_cases hi : i < vs.length
      · exact hi
      · rw [List.getElem?_append_right (by simpa using hi)] at h2
        rw [List.getElem?_replicate] at h2
        split at h2 <;> cases h2
    have ha : vs[i]? = some v := by
      unfold start at h2
      rw [List.getElem?_append_left (by simpa using hi), List.getElem?_map] at h2
      cases e : vs[i]? with
      | none => rw [e] at h2; cases h2
      | some a => rw [e] at h2; cases h2; rfl
    obtain ⟨u, hu, rv⟩ := r.get ha
    have hp : ps[i]? = some y := by
      rw [← S.pre, List.getElem?_take_of_lt (by omega)]; exact h1
    have ndP : ps.Nodup := by rw [← S.pre]; exact S.nd.sublist (List.take_sublist _ _)
    refine ⟨u, rv, ?_⟩
    rcases S.par y (List.mem_of_getElem? hp) with k | k
    · exact .inl ⟨k, bindL_get ndP hp hu k⟩
    · obtain ⟨c, e⟩ := cell_has (n := s.heap.objs.size + 1) k
      refine .inr ⟨.inl k, c, e, ?_⟩
      have q := x.cell y c e
      rw [bindC_get ndP hp hu (by show scope.names.lookup y ≠ _; rw [k]; decide)] at q
      exact q
  · exact e0.hok.fresh (Nat.le_of_lt (x.above y c (PySem.mem_of_lookup h)))
  · unfold start
    show _ = N.length
    rw [List.length_append, List.length_map, List.length_replicate]
    omega

/-- THE RULE: a def (or a method) of the text, by its body. The body's reading t is chosen for each entry; it is run at the parameters' values -/
theorem fn_of {CX : CXT} {P : Program} {w : World} {K : PySem.W.Frag} {mg : Str → Option Value} {base : Heap} {k : Nat} {f : Addr} {name qual : Str} {params : Arguments} {body : List Stmt} {scope : Scope} {dV kV doc pm cdv ct oc : Value} {an od : Option Addr}
    {osl : Array (Option Value)} {N ps : List Str} {sp : Sp} (lk : K.lookup f = some ⟨oc, od, .func (PySem.W.fnOf name qual params body scope dV kV doc pm an cdv ct), osl⟩) (hcd : PySem.W.codeIn K cdv qual = true) (S : FnScope N ps scope)
    (len : ∀ vs H Q E, sp vs H Q E → vs.length = ps.length)
    (hbody : ∀ (A : Around) (outer : List Env) (s : Shared) (H : Hp) (vs : List V) (Q : VK) (E : XK), Room k (A.deeper (envOfC qual scope s.heap.objs.size f cdv)) → sp vs H Q E →
      ∃ t, PSs (cxOf CX P w K mg base N qual scope f cdv A outer s H E) body t ∧ t { nx := fun _ H' => Q .non H', rt := Q } (start N vs) H) :
    FnOk P w K mg base CX (k + 1) f (PySem.W.fnOf name qual params body scope dV kV doc pm an cdv ct) ps sp := by
  refine ⟨len, fun A outer s H args us vs Q E hr e0 hb r hsp => ?_⟩
  have hl := len _ _ _ _ hsp
  have KX : K.In s.heap := e0.mod.kin.keeps fun b o e => (e0.bs b o e).1
  have lim : s.heap.NoLimit := e0.mod.nolimit.keeps fun b o e => (e0.bs b o e).1
  have hkind : ∀ y ∈ ps.zip us, scope.names.lookup y.1 = some .local ∨ (scope.names.lookup y.1 = some .cell ∧ ((cellsFrom (s.heap.objs.size + 1) scope.names []).lookup y.1).isSome = true) := fun ⟨n, v⟩ hy => by
    rcases S.par n (List.of_mem_zip hy).1 with q | q
    · exact .inl q
    · exact .inr ⟨q, PySem.W.cellsFrom_some _ _ _ (.inl q)⟩
  refine codeAny_call_function hr.depth (KX _ _ lk) rfl S.co S.gen rfl (PySem.W.codeRec_of KX hcd) (hb _ _ _ _ ?_)
  refine wpAny_newFunctionEnv_cells S.kind hkind fun env he s1 x => ?_
  subst he
  refine ⟨lim.keeps x.toInCall.keep, codeAny_func ?_⟩
  obtain ⟨t, ht, hq⟩ := hbody A outer s H vs Q E (hr.deeper _) hsp
  have I : Inv (cxOf CX P w K mg base N qual scope f cdv A outer s H E) [] (start N vs) H s1 := inv_start S hr.hd e0 hl r x
  refine wpAny_mono (ht [] s1 (start N vs) H _ I hq) (fun fl s' hs => ?_) fun e s' hs => hs
  have fin : ∀ {σ' : St} {H' : Hp} {v : V} {u : Value}, Inv (cxOf CX P w K mg base N qual scope f cdv A outer s H E) [] σ' H' s' → RelV v u → Q v H' → CE outer P w H s Q u s' :=
    fun {σ' H' v u} J rv q => ⟨v, H', J.os, J.bare, J.base, J.hok, rv, q⟩
  cases fl with
  | ret u =>
    obtain ⟨v, σ', H', J, rv, q⟩ := hs
    exact fin J rv q
  | next =>
    obtain ⟨σ', H', J, q⟩ := hs
    exact fin (v := V.non) (u := Value.none) J rfl q
  | brk =>
    obtain ⟨_, _, _, q⟩ := hs
    exact False.elim q
  | cont =>
    obtain ⟨_, _, _, q⟩ := hs
    exact False.elim q
end L2

namespace L2
open PySem PySem.Spec PyProof.Rows
section
variable {X : Cx} {x : Str} {p pos : Pos} {e : Expr} {es : List Expr} {t : TA} {id T : String} {r : List V → Hp → VK → Prop}

def tCB (r : List V → Hp → VK → Prop) (t : TA) : TE := fun σ H Q => t σ H fun vs H1 => r vs H1 Q
/-- f(e, ..), f a built-in function -/
theorem pe_callB (hc : CallR X (.builtin id) r) (hg : Gl X x) (hm : X.mg x = none) (hv : bootBuiltins x = some (.builtin id)) (ha : PA X (e :: es) t) (hn : x ≠ "__name__" := by decide) (hdb : (x == ("__debug__" : Str)) = false := by decide)
    (he : starEach (e :: es) X.env = (false, eval e X.env) :: starEach es X.env := by rfl) (hpl : (backTo pos (starEach es X.env)).any (·.1) = false := by rfl) : PE X (.Call (.Name x p) (e :: es) [] pos) (tCB r t) := by
  intro pins s σ H Q I h
  refine wpAny_Call_Name_kw (ld_blt I hg hm hv ?_ hn hdb)
  exact PyProof.Rows.callWith_builtin1 (thn (ha pos pins s σ H _ I h) fun us s1 ⟨vs, H1, I1, r1, q1⟩ => hc pins s1 σ H1 vs us Q I1 r1 q1) he hpl
end
end L2

namespace HT
open PySem PyProof.Rows

/-- t < u of tuples of ints -/
def lexLt : List Int → List Int → Bool
  | [], [] => false
  | [], _ :: _ => true
  | _ :: _, [] => false
  | x :: xs, y :: ys => if x = y then lexLt xs ys else decide (x < y)


section
open PySem.SeqAt
open PySem.AutoSeq1 (wpAny_loadPart')
open PySem.MeetsSeq PySem.MeetsSeq2 PySem.MeetsSeq3

end

section
variable {prog : Program} {w : World} {A : Around} {E : Value → Shared → Prop} {s : Shared}



/-! ### t[a:b], not the whole -/
/-- a slice's bound as a place among n (d where it is left out) -/
def sIx (n d : Nat) : Option Int → Nat
  | none => d
  | some v => if v < 0 then (v + (n : Int)).toNat else min v.toNat n

end
end HT

namespace L2
open PySem PySem.Spec PyProof.Rows

/-! ### the parts of a slice -/
abbrev TO := St → Hp → (Option Int → Hp → Prop) → Prop


section
variable {X : Cx} {e : Expr} {te : TE} {lo hi : Option Expr} {tl th : TO} {pos p2 : Pos}


/-- what a slice of a value is, by values: the slice object stands at sl -/
def SlR (X : Cx) (r : V → Option Int → Option Int → Hp → VK → Prop) : Prop :=
  ∀ (pins : List (Addr × Obj)) (s : Shared) (σ : St) (H : Hp) (x : V) (v vl vu : Value) (lo hi : Option Int) (sl : Addr) (Q : VK), Inv X pins σ H s → RelV x v → s.heap.IsSliceOf sl vl vu .none → IsPart vl lo → IsPart vu hi → r x lo hi H Q →
    ∃ T id, typeLookup (.type T) "__getitem__" = pure (some (.builtin id)) ∧ s.TypeIs v T ∧ wpAny (model X.prog X.w) X.A (getItem v (.ref sl)) (EP X pins σ Q) X.xe s
theorem SlR.or {r r' : V → Option Int → Option Int → Hp → VK → Prop} (h : SlR X r) (h' : SlR X r') : SlR X (fun x lo hi H Q => r x lo hi H Q ∨ r' x lo hi H Q) := by
  intro pins s σ H x v vl vu lo hi sl Q I rx hs pl pu q
  rcases q with q | q
  · exact h pins s σ H x v vl vu lo hi sl Q I rx hs pl pu q
  · exact h' pins s σ H x v vl vu lo hi sl Q I rx hs pl pu q


/-! ### t < u, t + u -/
end
end L2

namespace L2
open PySem PySem.Spec PyProof.Rows

/-! ### places -/
/-- the place that an index of any sign means -/
def ixN (n : Nat) (i : Int) : Option Nat := if 0 ≤ i then (if i < n then some i.toNat else none) else if -(n : Int) ≤ i then some (i + n).toNat else none
def atI {α : Type} (xs : List α) (i : Int) : Option α := (ixN xs.length i).bind fun j => xs[j]?
theorem ixN_seq {n : Nat} {i : Int} {j : Nat} (h : ixN n i = some j) : seqIndex? i n = some j ∧ j < n ∧ -(n : Int) ≤ i ∧ i < n := by
  unfold ixN at h
  by_cases h0 : 0 ≤ i
  · rw [if_pos h0] at h
    by_cases h1 : i < n
    · rw [if_pos h1] at h
      have e : i.toNat = j := Option.some.inj h
      exact ⟨by rw [seqIndex_of h0 h1, e], by omega, by omega, h1⟩
    · rw [if_neg h1] at h; cases h
  · rw [if_neg h0] at h
    by_cases h1 : -(n : Int) ≤ i
    · rw [if_pos h1] at h
      have e : (i + n).toNat = j := Option.some.inj h
      exact ⟨by rw [seqIndex_neg (by omega) h1, e], by omega, h1, by omega⟩
    · rw [if_neg h1] at h; cases h
theorem atI_get {α : Type} {xs : List α} {i : Int} {v : α} (h : atI xs i = some v) : ∃ j, seqIndex? i xs.length = some j ∧ xs[j]? = some v ∧ j < xs.length ∧ -(xs.length : Int) ≤ i ∧ i < xs.length := by
  unfold atI at h
  cases e : ixN xs.length i with
  | none => rw [e] at h; cases h
  | some j =>
    rw [e] at h
    obtain ⟨h1, h2, h3, h4⟩ := ixN_seq e
    exact ⟨j, h1, h, h2, h3, h4⟩
theorem atI_nat {α : Type} {xs : List α} {j : Nat} {v : α} (h : xs[j]? = some v) : atI xs (j : Int) = some v := by
  have hj : j < xs.length := (List.getElem?_eq_some_iff.mp h).1
  have e : ixN xs.length (j : Int) = some j := by
    unfold ixN
    rw [if_pos (by omega), if_pos (by omega)]; simp
  unfold atI; rw [e]; exact h
theorem atI_last {α : Type} (xs : List α) (v : α) : atI (xs ++ [v]) (-1) = some v := by
  have hl : (xs ++ [v]).length = xs.length + 1 := by simp
  have e : ixN (xs ++ [v]).length (-1) = some xs.length := by
    unfold ixN
    rw [hl, if_neg (by decide), if_pos (by omega)]
    congr 1
    omega
  unfold atI
  rw [e]
  show (xs ++ [v])[xs.length]? = some v
  simp

/-! ### what may be subscripted -/
/-- what stands as an index of a plain subscript -/
def PlainIx (b : Expr) : Prop := ∀ o i, subscripted b false o i = operate [o, i] (getItem o i)
/-- a subscript by values -/
def IxR (X : Cx) (r : R2) : Prop :=
  ∀ (value slice : Expr) (pins : List (Addr × Obj)) (s : Shared) (σ : St) (H : Hp) (x y : V) (v u : Value) (Q : VK), Inv X pins σ H s → RelV x v → RelV y u → r x y H Q →
    subscripted slice false v u = operate [v, u] (getItem v u) → wpAny (model X.prog X.w) X.A (subscriptTail value slice v u) (EP X pins σ Q) X.xe s
/-- a call of a builtin's method by values: the receiver, the arguments -/
def MtR (X : Cx) (id : String) (r : V → List V → Hp → VK → Prop) : Prop :=
  ∀ (pins : List (Addr × Obj)) (s : Shared) (σ : St) (H : Hp) (x : V) (xs : List V) (v : Value) (us : List Value) (Q : VK), Inv X pins σ H s → RelV x v → Vals xs us → r x xs H Q →
    wpAny (model X.prog X.w) X.A (call (.builtin id) (v :: us)) (EP X pins σ Q) X.xe s
section
variable {X : Cx} {a b : Expr} {ta tb : TE} {pos : Pos}
theorem IxR.or {r r' : R2} (h : IxR X r) (h' : IxR X r') : IxR X (fun x y H Q => r x y H Q ∨ r' x y H Q) := by
  intro value slice pins s σ H x y v u Q I rx ry q hs
  rcases q with q | q
  · exact h value slice pins s σ H x y v u Q I rx ry q hs
  · exact h' value slice pins s σ H x y v u Q I rx ry q hs
theorem MtR.or {id : String} {r r' : V → List V → Hp → VK → Prop} (h : MtR X id r) (h' : MtR X id r') : MtR X id (fun x xs H Q => r x xs H Q ∨ r' x xs H Q) := by
  intro pins s σ H x xs v us Q I rx rs q
  rcases q with q | q
  · exact h pins s σ H x xs v us Q I rx rs q
  · exact h' pins s σ H x xs v us Q I rx rs q
/-- a[b] -/
theorem pe_ix {r : R2} (hr : IxR X r) (ha : PE X a ta) (hb : PE X b tb) (hs : PlainIx b) : PE X (.Subscript a b pos) (tOp r ta tb) := by
  intro pins s σ H Q I h
  exact Subscript_ (binT ha hb I h fun v u s2 x y H2 I2 rx ry q => hr a b pins s2 σ H2 x y v u Q I2 rx ry q (hs _ _))

def rIxL (K : PySem.W.Frag) : R2 := fun x y H Q => ∃ p xs i v, x = .ref p ∧ y = .int i ∧ SqL K H p xs ∧ atI xs i = some v ∧ Q v H
def rIxT (K : PySem.W.Frag) : R2 := fun x y H Q => ∃ p xs i v, x = .ref p ∧ y = .int i ∧ SqT K H p xs ∧ atI xs i = some v ∧ Q v H
theorem ix_list : IxR X (rIxL X.K) := by
  intro value slice pins s σ H x y v u Q I rx ry h hs
  obtain ⟨p, xs, i, z, rfl, rfl, hq, he, q⟩ := h
  cases rx
  obtain ⟨t, rfl⟩ := ry
  obtain ⟨its, r, pl, hz⟩ := I.list hq
  obtain ⟨j, h1, h2, h3, h4, h5⟩ := atI_get he
  obtain ⟨w, ew, rw'⟩ := r.get h2
  have hl := r.length
  have hn := line63
  have fin : EP X pins σ Q w s := ⟨z, H, I, rw', q⟩
  by_cases h0 : 0 ≤ i
  · have hj : i.toNat = j := by
      rw [seqIndex_of h0 h5] at h1
      exact Option.some.inj h1
    exact item_listR pl.isList h0 (by omega) (by rw [hj]; simpa using ew) fin hs
  · have hj : (i + (its.toArray.size : Int)).toNat = j := by
      rw [seqIndex_neg (by omega) h4] at h1
      rw [List.size_toArray, ← hl]
      exact Option.some.inj h1
    exact subscriptTail_builtinR (x := w) pl.isList.typeIs slot_list_getitem.lookup
      (wpAny_getItem_list_neg (Q := fun r s' => r = w ∧ EP X pins σ Q r s') pl.isList (by omega) (by rw [List.size_toArray] <;> omega) (by omega) (by rw [hj]; simpa using ew) ⟨rfl, fin⟩) hs
theorem ix_tup : IxR X (rIxT X.K) := by
  intro value slice pins s σ H x y v u Q I rx ry h hs
  obtain ⟨p, xs, i, z, rfl, rfl, hq, he, q⟩ := h
  cases rx
  obtain ⟨t, rfl⟩ := ry
  obtain ⟨its, r, pl, hz⟩ := I.tuple hq
  obtain ⟨j, h1, h2, h3, h4, h5⟩ := atI_get he
  obtain ⟨w, ew, rw'⟩ := r.get h2
  have hl := r.length
  have hn := line63
  have fin : EP X pins σ Q w s := ⟨z, H, I, rw', q⟩
  exact subscriptTail_builtinR (x := w) pl.typeIs slot_tuple_getitem.lookup
    (getItem_tuple (j := j) (Q := fun r s' => r = w ∧ EP X pins σ Q r s') pl (by omega) (by omega) (by rw [List.size_toArray, ← hl]; exact h1) (by simpa using ew) ⟨rfl, fin⟩) hs

/-! ### xs[i] = v, any sign -/
theorem Inv.lst {pins : List (Addr × Obj)} {σ : St} {H : Hp} {s : Shared} {p : Addr} {xs : List V} (I : Inv X pins σ H s) (h : H p = some (.lst xs)) :
    ∃ (its : List Value) (n : Nat), Vals xs its ∧ s.heap.get? p = some { cls := .type "list", data := .seq its.toArray n } ∧ xs.length ≤ sizeLine := by
  obtain ⟨z, its, n, r, e⟩ := I.hok p _ h
  exact ⟨its, n, r, e, z⟩

/-! ### slices -/

/-! ### in, not in: flat items -/

/-! ### len, list(x), tuple(x) of any list or tuple that is read -/
theorem call_len_seq : CallR X (.builtin "len") (fun xs H Q => ∃ p ys, xs = [.ref p] ∧ (SqL X.K H p ys ∨ SqT X.K H p ys) ∧ Q (.int ys.length) H) := by
  intro pins s σ H xs us Q I r h
  obtain ⟨p, ys, rfl, hq, q⟩ := h
  obtain ⟨u, rfl, rx⟩ := vals1 r
  cases rx
  have hn := line63
  rcases hq with hq | hq
  · obtain ⟨its, r', pl, hz⟩ := I.list hq
    have hlen := r'.length
    exact Calls.call_len_list pl.isList (by simp only [List.size_toArray] <;> omega) ⟨.int ys.length, H, I.tok _, ⟨s.toks + 1, by rw [List.size_toArray, hlen]⟩, q⟩
  · obtain ⟨its, r', pl, hz⟩ := I.tuple hq
    have hlen := r'.length
    exact len_tuple pl (by simp only [List.size_toArray] <;> omega) ⟨.int ys.length, H, I.tok _, ⟨s.toks + 1, by rw [List.size_toArray, hlen]⟩, q⟩
theorem CallR.or {f : Value} {r r' : List V → Hp → VK → Prop} (h : CallR X f r) (h' : CallR X f r') : CallR X f (fun xs H Q => r xs H Q ∨ r' xs H Q) := by
  intro pins s σ H xs us Q I rs q
  rcases q with q | q
  · exact h pins s σ H xs us Q I rs q
  · exact h' pins s σ H xs us Q I rs q

/-! ### the call of a builtin's method: o.m(..) -/
/-- the value is of that builtin type -/
def tyV (K : PySem.W.Frag) (T : String) (x : V) (H : Hp) : Prop := match x with
  | .str _ => T = "str"
  | .int _ => T = "int"
  | .ref p => (T = "list" ∧ ∃ xs, SqL K H p xs) ∨ (T = "tuple" ∧ ∃ o, K.lookup p = some o ∧ o.cls = .type "tuple" ∧ o.dict = none) ∨
      (T = "dict" ∧ ((∃ kvs, H p = some (.dK kvs)) ∨ ∃ kvs, H p = some (.dT kvs))) ∨ (T = "set" ∧ ∃ S n, H p = some (.set S n))
  | _ => False
theorem tyV_is {pins : List (Addr × Obj)} {σ : St} {H : Hp} {s : Shared} {T : String} {x : V} {v : Value} (I : Inv X pins σ H s) (r : RelV x v) (ty : tyV X.K T x H) :
    s.TypeIs v T ∧ ∀ a, v = .ref a → ∃ ob, s.heap.get? a = some ob ∧ ob.dict = none := by
  cases x with
  | str z =>
    obtain ⟨t, rfl⟩ := r
    cases (show T = "str" from ty)
    exact ⟨typeIs_str s z t, fun _ e => nomatch e⟩
  | int i =>
    obtain ⟨t, rfl⟩ := r
    cases (show T = "int" from ty)
    exact ⟨typeIs_int s i t, fun _ e => nomatch e⟩
  | ref p =>
    cases r
    rcases ty with ⟨rfl, xs, hq⟩ | ⟨rfl, o, hk, hc, hd⟩ | ⟨rfl, hk⟩ | ⟨rfl, S, n, hk⟩
    · obtain ⟨its, _, pl, _⟩ := I.list hq
      refine ⟨pl.isList.typeIs, fun a e => ?_⟩
      cases e
      obtain ⟨o, n, e, c, hd, _⟩ := pl
      exact ⟨o, e, hd⟩
    · refine ⟨⟨o, I.kIn p o hk, hc⟩, fun a e => ?_⟩
      cases e
      exact ⟨o, I.kIn _ o hk, hd⟩
    · have z : ∃ o, s.heap.get? p = some o ∧ o.ExactDict := by
        rcases hk with ⟨kvs, hk⟩ | ⟨kvs, hk⟩
        · obtain ⟨_, _, _, _, o, _, _, e, ex, _⟩ := I.hok p _ hk
          exact ⟨o, e, ex⟩
        · obtain ⟨_, _, _, _, o, _, _, e, ex, _⟩ := I.hok p _ hk
          exact ⟨o, e, ex⟩
      obtain ⟨o, e, ex⟩ := z
      refine ⟨⟨o, e, ex.1⟩, fun a e2 => ?_⟩
      cases e2
      exact ⟨o, e, ex.2.1⟩
    · obtain ⟨o, _, _, _, e, ex, _⟩ := I.hok p _ hk
      refine ⟨⟨o, e, ex.1⟩, fun a e2 => ?_⟩
      cases e2
      exact ⟨o, e, ex.2.1⟩
  | _ => exact False.elim ty
def tBM0 (K : PySem.W.Frag) (T : String) (r : V → List V → Hp → VK → Prop) (to : TE) : TE := fun σ H Q => to σ H fun x H1 => tyV K T x H1 ∧ r x [] H1 Q
def tBM (K : PySem.W.Frag) (T : String) (r : V → List V → Hp → VK → Prop) (to : TE) (t : TA) : TE := fun σ H Q => to σ H fun x H1 => tyV K T x H1 ∧ t σ H1 fun xs H2 => r x xs H2 Q
variable {o e : Expr} {es : List Expr} {to : TE} {t : TA} {name : Str} {apos cpos : Pos} {T id : String} {r : V → List V → Hp → VK → Prop}
theorem pe_bm0 (pa : PlainAttrs T) (slot : Slot T name id) (hty : typeOf (.builtin id) = pure (.type "method_descriptor")) (hm : MtR X id r) (ho : PE X o to)
    (hbase : attributeBase o name X.env (eval o X.env) = eval o X.env := by rfl) (hline : (apos.endLine == cpos.line) = true := by rfl) : PE X (.Call (.Attribute o name apos) [] [] cpos) (tBM0 X.K T r to) := by
  intro pins s σ H Q I h
  refine wpAny_Call_method0_late hbase hline (thn (ho pins s σ H _ I h) fun v s1 ⟨x, H1, I1, r1, ty, q1⟩ => ?_)
  obtain ⟨h1, h2⟩ := tyV_is I1 r1 ty
  exact ⟨T, id, pa, slot, hty, h1, h2, Calls.callWith_builtin rfl (PySem.evalArgs_none (hm pins s1 σ H1 x [] v [] Q I1 r1 .nil q1))⟩
theorem pe_bm (pa : PlainAttrs T) (slot : Slot T name id) (hty : typeOf (.builtin id) = pure (.type "method_descriptor")) (hm : MtR X id r) (ho : PE X o to) (ha : PA X (e :: es) t)
    (hbase : attributeBase o name X.env (eval o X.env) = eval o X.env := by rfl)
    (hfew : ((backTo cpos (starEach (e :: es) X.env)).all (fun x => !x.1) && (backToKw cpos (keywordEach [] X.env)).all (fun x => x.1.isSome)
      && decide ((e :: es).length + ([] : List Keyword).length + (if ([] : List Keyword).isEmpty then 0 else 1) < 30)) = true := by rfl)
    (hline : (apos.endLine == cpos.line) = true := by rfl) (hs : starEach (e :: es) X.env = (false, eval e X.env) :: starEach es X.env := by rfl) (hplain : (backTo cpos (starEach es X.env)).any (·.1) = false := by rfl) :
    PE X (.Call (.Attribute o name apos) (e :: es) [] cpos) (tBM X.K T r to t) := by
  intro pins s σ H Q I h
  refine wpAny_Call_method_late hbase hfew hline rfl (thn (ho pins s σ H _ I h) fun v s1 ⟨x, H1, I1, r1, ty, q1⟩ => ?_)
  obtain ⟨h1, h2⟩ := tyV_is I1 r1 ty
  refine ⟨T, id, pa, slot, hty, h1, h2, ?_⟩
  have hA := ha cpos pins s1 σ H1 _ I1 q1
  rw [hs] at hA ⊢
  refine Calls.callWith_builtin (by show (false || (backTo cpos (starEach es X.env)).any (·.1)) = false; rw [hplain] <;> rfl) (Calls.evalArgs_plain ?_)
  exact thn hA fun us s2 ⟨vs, H2, I2, r2, q2⟩ => hm pins s2 σ H2 x vs v us Q I2 r1 r2 q2
/- xs.append(e), list.index on a module's tuple .. are MtR facts of 06m -/
end
end L2

namespace L2
open PySem PySem.Spec PyProof.Rows

def MtM (X : Cx) (id : String) (r : V → List V → Hp → VK → Prop) : Prop :=
  ∀ (pins : List (Addr × Obj)) (s : Shared) (σ : St) (H : Hp) (x : V) (xs : List V) (v : Value) (us : List Value) (Q : VK), Inv X pins σ H s → RelV x v → Vals xs us → r x xs H Q →
    wpAny (model X.prog X.w) X.A (call (.builtin id) (v :: us)) (EP X pins σ Q) X.xe s

/-! ### lists of values -/
theorem Vals.one : ∀ {x : V} {us : List Value}, Vals [x] us → ∃ u, us = [u] ∧ RelV x u
  | _, _, .cons r .nil => ⟨_, rfl, r⟩
theorem Vals.two : ∀ {x y : V} {us : List Value}, Vals [x, y] us → ∃ u v, us = [u, v] ∧ RelV x u ∧ RelV y v
  | _, _, _, .cons r (.cons q .nil) => ⟨_, _, rfl, r, q⟩
theorem Vals.zero : ∀ {us : List Value}, Vals [] us → us = []
  | _, .nil => rfl
theorem Vals.dropLast {xs : List V} {us : List Value} (h : Vals xs us) : Vals xs.dropLast us.dropLast := by
  induction h with
  | nil => exact .nil
  | cons r t ih =>
    cases t with
    | nil => exact .nil
    | cons q t' => exact .cons r ih
theorem Vals.eraseIdx : ∀ {xs : List V} {us : List Value} (i : Nat), Vals xs us → Vals (xs.eraseIdx i) (us.eraseIdx i)
  | _, _, _, .nil => .nil
  | _, _, 0, .cons _ t => t
  | _, _, i + 1, .cons r t => .cons r (Vals.eraseIdx i t)
theorem Vals.reverse {xs : List V} {us : List Value} (h : Vals xs us) : Vals xs.reverse us.reverse := by
  induction h with
  | nil => exact .nil
  | cons r t ih => rw [List.reverse_cons, List.reverse_cons]; exact Vals.append ih (.cons r .nil)
theorem erase_last {α : Type} (l : List α) : l.eraseIdx (l.length - 1) = l.dropLast := by
  induction l with
  | nil => rfl
  | cons a r ih =>
    cases r with
    | nil => rfl
    | cons b r =>
      have e : (a :: b :: r).length - 1 = ((b :: r).length - 1) + 1 := by
        have h1 : (a :: b :: r).length = r.length + 2 := rfl
        have h2 : (b :: r).length = r.length + 1 := rfl
        omega
      rw [e, List.eraseIdx_cons_succ, ih]
      all_goals rfl

section
variable {X : Cx} {pins : List (Addr × Obj)} {σ : St} {H : Hp} {s : Shared} {l b : Addr} {xs ys zs : List V}

/-! ### the two steps: a tracked list is rewritten, a new list is laid -/
theorem Inv.lset {its its' : List Value} {n : Nat} {f : Array Value → Array Value} {t' : Nat} (I : Inv X pins σ H s) (hH : H l = some (.lst xs))
    (e : s.heap.get? l = some { cls := .type "list", data := .seq its.toArray n }) (hf : f its.toArray = its'.toArray) (hv : Vals ys its') (hz : ys.length ≤ sizeLine) :
    Inv X pins σ (upd H l (.lst ys)) { s with heap := s.heap.update l (Obj.mapSeq f), toks := t' } := by
  have q := PySem.IsL.update e f
  rw [hf] at q
  refine I.write (x := l) (e := l) (by rw [hH]; exact trivial) (.inl rfl) (fun b' u hb hu => (Heap.get?_update_other s.heap (Obj.mapSeq f) (Ne.symm hb)).trans hu) ⟨_, q⟩ ?_
  exact ⟨hz, its', _, hv, q⟩
theorem Inv.lnew {its : List Value} {t' : Nat} (I : Inv X pins σ H s) (hv : Vals ys its) (hz : ys.length ≤ sizeLine) :
    Inv X pins σ (upd H s.heap.objs.size (.lst ys)) { s with heap := s.heap.push { cls := .type "list", data := .seq its.toArray }, toks := t' } :=
  I.laid (fun _ _ q => Heap.get?_push_of_some _ q) (Nat.le_refl _) ⟨hz, its, 0, hv, Heap.get?_push_size _ rfl⟩
theorem Inv.fresh (I : Inv X pins σ H s) : H s.heap.objs.size = none := I.hok.fresh (Nat.le_refl _)
theorem Inv.lstM (I : Inv X pins σ H s) (hH : H l = some (.lst xs)) : xs.length ≤ sizeLine ∧ ∃ (its : List Value) (n : Nat), Vals xs its ∧ xs.length = its.length ∧ s.heap.get? l = some { cls := .type "list", data := .seq its.toArray n } := by
  obtain ⟨z, its, n, r, e⟩ := I.hok l _ hH
  exact ⟨z, its, n, r, r.length, e⟩

end

section
variable {X : Cx}

/-! ### methods -/
def rAppend : V → List V → Hp → VK → Prop := fun x vs H Q => ∃ l xs y, x = .ref l ∧ vs = [y] ∧ H l = some (.lst xs) ∧ xs.length < sizeLine ∧ Q .non (upd H l (.lst (xs ++ [y])))
theorem mt_append : MtM X "list.append" rAppend := by
  intro pins s σ H x vs v us Q I rx rv h
  obtain ⟨l, xs, y, rfl, rfl, hH, hz, q⟩ := h
  cases rx
  obtain ⟨u, rfl, ru⟩ := rv.one
  obtain ⟨z, its, n, r, hl, e⟩ := I.lstM hH
  refine call_meets F.slot_list_append ⟨_, e, rfl⟩ F.entry_list_append (F.args_list_append_2 _ _) (PySem.list_append l its.toArray n u (by rw [List.size_toArray]; omega)) ⟨e, ?_⟩
  refine ⟨.non, _, I.lset (its' := its ++ [u]) hH e (by simp) (r.append (.cons ru .nil)) ?_, rfl, q⟩
  rw [List.length_append, List.length_singleton]
  omega


def rPop : V → List V → Hp → VK → Prop := fun x vs H Q => ∃ l xs y, x = .ref l ∧ vs = [] ∧ H l = some (.lst xs) ∧ xs[xs.length - 1]? = some y ∧ Q y (upd H l (.lst xs.dropLast))
theorem mt_pop : MtM X "list.pop" rPop := by
  intro pins s σ H x vs v us Q I rx rv h
  obtain ⟨l, xs, y, rfl, rfl, hH, hy, q⟩ := h
  cases rx
  have hus := rv.zero
  subst hus
  obtain ⟨z, its, n, r, hl, e⟩ := I.lstM hH
  obtain ⟨u, hu, ru⟩ := r.get hy
  have hy' : its.toArray[its.toArray.size - 1]? = some u := by
    show its.toArray[its.length - 1]? = some u
    rw [← Array.getElem?_toList, ← hl]
    exact hu
  refine call_meets F.slot_list_pop ⟨_, e, rfl⟩ F.entry_list_pop (F.args_list_pop_1 _) (MeetsSeq.list_pop_last l its.toArray n u hy' (by rw [List.size_toArray]; omega)) ⟨e, ?_⟩
  refine ⟨y, _, I.lset (its' := its.dropLast) hH e ?_ r.dropLast ?_, ru, q⟩
  · show its.toArray.eraseIdxIfInBounds (its.toArray.size - 1) = its.dropLast.toArray
    rw [List.size_toArray, List.eraseIdxIfInBounds_toArray, erase_last]
  · rw [List.length_dropLast]
    omega




/-! ### list + list, list += list, list * int -/
def rCat : R2 := fun x y H Q => ∃ l b xs zs, x = .ref l ∧ y = .ref b ∧ H l = some (.lst xs) ∧ H b = some (.lst zs) ∧ xs.length + zs.length ≤ sizeLine ∧ ∀ p, H p = none → Q (.ref p) (upd H p (.lst (xs ++ zs)))
theorem op_cat : OpR X (binaryOp .Add) rCat := by
  intro pins s σ H x y v u Q I rx ry h
  obtain ⟨l, b, xs, zs, rfl, rfl, hH, hB, hz, q⟩ := h
  cases rx
  cases ry
  obtain ⟨z, its, n, r, hl, e⟩ := I.lstM hH
  obtain ⟨z2, its2, n2, r2, hl2, e2⟩ := I.lstM hB
  refine PySem.P.add_list e e2 ?_ (by rw [List.size_toArray, List.size_toArray]; omega)
  have ea : its.toArray ++ its2.toArray = (its ++ its2).toArray := by simp
  rw [ea]
  exact ⟨.ref _, _, I.lnew (t' := s.toks) (r.append r2) (by rw [List.length_append]; omega), rfl, q _ I.fresh⟩

/-! ### del xs[i] -/
end

/-! ### xs[a:b] = ys -/
section
variable {prog : Program} {w : World} {A : Around} {E : Value → Shared → Prop} {s : Shared}
set_option maxRecDepth 100000 in
end

section
variable {X : Cx}
end
end L2

namespace L2
open PySem PySem.Spec PyProof.Rows

theorem Vals.ints : ∀ {ns : List Int} {us : List Value}, Vals (ns.map V.int) us → IntsAre us ns
  | [], us, h => by
    rw [List.map_nil] at h
    cases h
    exact IntsAre.nil
  | n :: ns, us, h => by
    rw [List.map_cons] at h
    cases h with
    | cons r t =>
      obtain ⟨k, rfl⟩ := r
      exact IntsAre.cons n k (Vals.ints t)
theorem Vals.strs : ∀ {xs : List Str} {us : List Value}, Vals (xs.map V.str) us → StrsAre us xs
  | [], us, h => by
    rw [List.map_nil] at h
    cases h
    exact StrsAre.nil
  | x :: xs, us, h => by
    rw [List.map_cons] at h
    cases h with
    | cons r t =>
      obtain ⟨k, rfl⟩ := r
      exact StrsAre.cons x k (Vals.strs t)
theorem Vals.ref1 {a : Addr} {us : List Value} (r : Vals [V.ref a] us) : us = [Value.ref a] := by
  cases r with
  | cons r t =>
    cases t
    cases r
    rfl
theorem Vals.int2 {i j : Int} {us : List Value} (r : Vals [V.int i, V.int j] us) : ∃ t u, us = [Value.int i t, Value.int j u] := by
  cases r with
  | cons r t =>
    cases t with
    | cons r2 t2 =>
      cases t2
      obtain ⟨t, rfl⟩ := r
      obtain ⟨u, rfl⟩ := r2
      exact ⟨t, u, rfl⟩

/-! ### the library's walks over a list of ints, kept objects alone -/
section
variable {prog : Program} {w : World} {A : Around} {E : Value → Shared → Prop} {s : Shared} {l : Addr} {its : List Value} {ns : List Int} {Q : Value → Shared → Prop}
theorem max_raw (hh : A.handled = none) (hl : s.heap.IsList l its.toArray) (hi : IntsAre its ns) (hne : 0 < ns.length)
    (h : ∀ h' tk M t', (∀ b o, s.heap.get? b = some o → h'.get? b = some o) → M ∈ ns → (∀ a, a ∈ ns → a ≤ M) → Q (.int M t') { s with heap := h', toks := tk }) : wpAny (model prog w) A (call (.builtin "max") [.ref l]) Q E s := by
  obtain ⟨xs, e⟩ := hi.allInts.items
  have hn : numsOf (intItems xs).toList = ns := by rw [← e]; exact hi.numsOf
  rw [nums_intItems] at hn
  subst hn
  rw [e] at hl
  have hsz : 0 < xs.size := by simpa using hne
  refine PySem.max_intList hh hl hsz fun v h' tk hv hk => ?_
  obtain ⟨t, rfl⟩ := intItems_at hv
  obtain ⟨h1, h2⟩ := argBest_gt (numAt xs) (xs.size - 1)
  refine h h' tk _ t hk ?_ fun a ha => ?_
  · rw [numAt_eq]; exact PySem.getD_mem (by rw [List.length_map, Array.length_toList]; omega)
  · obtain ⟨j, hj, rfl⟩ := mem_getD ha
    rw [List.length_map, Array.length_toList] at hj
    rw [← numAt_eq]; exact h2 j (by omega)
end

/-! ### the calls, by values (CallR of 03t; MtR of 06l) -/
section
variable {X : Cx}
/-- max(xs), min(xs) of a list of ints -/
def rMax (K : PySem.W.Frag) : List V → Hp → VK → Prop := fun vs H Q => ∃ (a : Addr) (ns : List Int), vs = [V.ref a] ∧ SqL K H a (ns.map V.int) ∧ 0 < ns.length ∧ ∀ m, m ∈ ns → (∀ y, y ∈ ns → y ≤ m) → Q (.int m) H
theorem cr_max (hc : X.calm = true) : CallR X (.builtin "max") (rMax X.K) := by
  intro pins s σ H vs us Q I r h
  obtain ⟨a, ns, rfl, hs, hne, q⟩ := h
  obtain ⟨its, rv, hl, _⟩ := I.list hs
  rw [Vals.ref1 r]
  exact max_raw (I.ok.hd hc) hl.isList rv.ints hne fun h' tk m t' hk h1 h2 => ⟨.int _, H, I.kept hk, ⟨_, rfl⟩, q m h1 h2⟩

/-! sorted, sort (fewer than 64 items: the library's own bound) -/
end

/-! ### list.index, flat items -/
section
variable {X : Cx}
end

/-! ### type(x) of an own instance; is, is not of a module's class -/
section
variable {X : Cx}
end

/-! ### any(xs), all(xs) of a list of bools -/
section
variable {X : Cx}
end

/-! ### == and != of data at any depth: none, bools, ints, texts, lists, tuples -/
mutual
inductive Dp (K : PySem.W.Frag) (H : Hp) : V → PyData → Prop
  | non : Dp K H .non .none
  | bl (b : Bool) : Dp K H (.bl b) (.bool b)
  | int (i : Int) : Dp K H (.int i) (.int i)
  | str (x : Str) : Dp K H (.str x) (.str x)
  | lst {a : Addr} {xs : List V} {ds : List PyData} : SqL K H a xs → DpAll K H xs ds → Dp K H (.ref a) (.list ds)
  | tup {a : Addr} {xs : List V} {ds : List PyData} : SqT K H a xs → DpAll K H xs ds → Dp K H (.ref a) (.tuple ds)
inductive DpAll (K : PySem.W.Frag) (H : Hp) : List V → List PyData → Prop
  | nil : DpAll K H [] []
  | cons {v : V} {vs : List V} {d : PyData} {ds : List PyData} : Dp K H v d → DpAll K H vs ds → DpAll K H (v :: vs) (d :: ds)
end
section
variable {X : Cx} {pins : List (Addr × Obj)} {σ : St} {H : Hp} {s : Shared}
mutual
theorem Dp.reads (I : Inv X pins σ H s) : ∀ (d : PyData) (v : V) (u : Value), Dp X.K H v d → RelV v u → ∃ as, Reads s.heap u d as
  | .none, _, _, h, r => by
    cases h
    cases r
    exact ⟨_, Reads.none⟩
  | .bool b, _, _, h, r => by
    cases h
    cases r
    exact ⟨_, Reads.bool b⟩
  | .int i, _, _, h, r => by
    cases h
    obtain ⟨t, rfl⟩ := r
    exact ⟨_, Reads.int i t⟩
  | .str x, _, _, h, r => by
    cases h
    obtain ⟨t, rfl⟩ := r
    exact ⟨_, Reads.str x t⟩
  | .list ds, _, _, h, r => by
    cases h with
    | lst hs ha =>
      cases r
      obtain ⟨its, rv, ⟨o, n, ho, hc, _, hd⟩, _⟩ := I.list hs
      obtain ⟨as, hr⟩ := Dp.readsAll I ds _ its ha rv
      exact ⟨_, Reads.list ho hc hd hr⟩
  | .tuple ds, _, _, h, r => by
    cases h with
    | tup hs ha =>
      cases r
      obtain ⟨its, rv, ⟨o, ho, hc, n, hd⟩, _⟩ := I.tuple hs
      obtain ⟨as, hr⟩ := Dp.readsAll I ds _ its ha rv
      exact ⟨_, Reads.tuple ho hc hd hr⟩
  | .dict _, _, _, h, _ => by cases h
theorem Dp.readsAll (I : Inv X pins σ H s) : ∀ (ds : List PyData) (vs : List V) (us : List Value), DpAll X.K H vs ds → Vals vs us → ∃ as, ReadsAll s.heap us ds as
  | [], _, _, h, r => by
    cases h
    cases r
    exact ⟨_, ReadsAll.nil⟩
  | d :: ds, _, _, h, r => by
    cases h with
    | cons h1 h2 =>
      cases r with
      | cons r1 r2 =>
        obtain ⟨as, q1⟩ := Dp.reads I d _ _ h1 r1
        obtain ⟨bs, q2⟩ := Dp.readsAll I ds _ _ h2 r2
        exact ⟨_, ReadsAll.cons q1 q2⟩
end
end
section
variable {X : Cx}
end
end L2

namespace L2
open PySem PySem.Spec PyProof.Rows
abbrev CellAt (h : Heap) (c : Addr) (v : Option Value) : Prop := h.IsCell c v
def relS (scope sc : Scope) : Scope :=
  { scope with names := scope.names.map fun (n, k) => if (k == .free && sc.kind == .function && sc.names.lookup n == some .cell) then (n, .cell) else (n, k) }

def cloFrom (cells : List (Str × Addr)) : List (Str × NameKind) → List (Str × Addr) → List (Str × Addr)
  | [], acc => acc
  | (n, k) :: r, acc => if k == .free then cloFrom cells r ((n, (cells.lookup n).getD 0) :: acc) else cloFrom cells r acc

theorem closure_loop (env : Env) (f : Str × NameKind → List (Str × Addr) → Sem (ForInStep (List (Str × Addr))))
    (hf : ∀ n k c, f (n, k) c = if k == .free then (do let a ← cellOf env n; pure (.yield ((n, a) :: c))) else pure (.yield c)) :
    ∀ (names : List (Str × NameKind)) (acc : List (Str × Addr)), (∀ y ∈ names, y.2 = .free → ∃ c, env.cells.lookup y.1 = some c) → forIn names acc f = pure (cloFrom env.cells names acc)
  | [], acc, _ => by rw [List.forIn_nil]; rfl
  | (n, k) :: r, acc, h => by
    rw [List.forIn_cons, hf]
    have ih := fun acc => closure_loop env f hf r acc fun y hy => h y (List.mem_cons_of_mem _ hy)
    unfold cloFrom
    by_cases hk : (k == NameKind.free) = true
    · rw [if_pos hk, if_pos hk]
      obtain ⟨c, hc⟩ := h (n, k) List.mem_cons_self (by simpa using hk)
      have e : cellOf env n = pure c := by unfold cellOf; rw [hc]
      rw [e]
      have e2 : (env.cells.lookup n).getD 0 = c := by rw [hc]; rfl
      rw [e2]
      exact ih _
    · rw [if_neg hk, if_neg hk]
      exact ih _
theorem closure_ok {scope : Scope} {env : Env} (h : ∀ y ∈ scope.names, y.2 = .free → ∃ c, env.cells.lookup y.1 = some c) : closureFor scope env = pure (cloFrom env.cells scope.names []) := by
  simp only [closureFor]
  rw [closure_loop env _ (fun n k c => rfl) scope.names [] h]
  rfl

theorem mem_lookup {α : Type} : ∀ {l : List (Str × α)} {n : Str} {c : α}, (n, c) ∈ l → ∃ c', l.lookup n = some c'
  | (k, v) :: r, n, c, h => by
    rw [List.lookup_cons]
    cases hb : n == k with
    | true => exact ⟨_, rfl⟩
    | false =>
      rcases List.mem_cons.mp h with e | h
      · cases e; simp at hb
      · exact mem_lookup h

theorem cloFrom_mem {cells : List (Str × Addr)} : ∀ {names : List (Str × NameKind)} {acc : List (Str × Addr)} {n : Str} {c : Addr}, (n, c) ∈ cloFrom cells names acc → (n, c) ∈ acc ∨ ((n, .free) ∈ names ∧ c = (cells.lookup n).getD 0)
  | [], _, _, _, h => .inl h
  | (m, k) :: r, acc, n, c, h => by
    unfold cloFrom at h
    split at h
    · rename_i hk
      have hk : k = .free := by simpa using hk
      rcases cloFrom_mem h with h | ⟨h1, h2⟩
      · rcases List.mem_cons.mp h with e | h
        · cases e; exact .inr ⟨hk ▸ List.mem_cons_self, rfl⟩
        · exact .inl h
      · exact .inr ⟨List.mem_cons_of_mem _ h1, h2⟩
    · rcases cloFrom_mem h with h | ⟨h1, h2⟩
      · exact .inl h
      · exact .inr ⟨List.mem_cons_of_mem _ h1, h2⟩
theorem cloFrom_acc {cells : List (Str × Addr)} : ∀ {names : List (Str × NameKind)} {acc : List (Str × Addr)} {p : Str × Addr}, p ∈ acc → p ∈ cloFrom cells names acc
  | [], _, _, h => h
  | (m, k) :: r, acc, p, h => by
    unfold cloFrom
    split
    · exact cloFrom_acc (List.mem_cons_of_mem _ h)
    · exact cloFrom_acc h
theorem cloFrom_has {cells : List (Str × Addr)} : ∀ {names : List (Str × NameKind)} {acc : List (Str × Addr)} {n : Str}, (n, .free) ∈ names → (n, (cells.lookup n).getD 0) ∈ cloFrom cells names acc
  | (m, k) :: r, acc, n, h => by
    unfold cloFrom
    rcases List.mem_cons.mp h with e | h
    · cases e
      exact cloFrom_acc List.mem_cons_self
    · split
      · exact cloFrom_has h
      · exact cloFrom_has h

theorem cells_mem : ∀ {names : List (Str × NameKind)} {h : Heap} {acc : List (Str × Addr)} {x : Str} {c : Addr}, (x, c) ∈ cellsFrom h.objs.size names acc →
    (x, c) ∈ acc ∨ ((x, .cell) ∈ names ∧ h.objs.size ≤ c ∧ CellAt (pushCells h names) c none)
  | [], _, _, _, _, h => .inl h
  | (n, k) :: r, h, acc, x, c, hm => by
    unfold cellsFrom at hm
    unfold pushCells
    split at hm
    · rename_i hk
      rw [if_pos hk]
      have hk : k = .cell := by simpa using hk
      rw [← Heap.size_push h { cls := .type "cell", data := .cell none }] at hm
      rcases cells_mem hm with hm | ⟨h1, h2, h3⟩
      · rcases List.mem_cons.mp hm with e | hm
        · cases e
          exact .inr ⟨hk ▸ List.mem_cons_self, Nat.le_refl _, _, pushCells_keeps r _ _ _ (Heap.get?_push_size _ rfl), rfl⟩
        · exact .inl hm
      · rw [Heap.size_push] at h2
        exact .inr ⟨List.mem_cons_of_mem _ h1, Nat.le_of_succ_le h2, h3⟩
    · rename_i hk
      rw [if_neg hk]
      rcases cells_mem hm with hm | ⟨h1, h2, h3⟩
      · exact .inl hm
      · exact .inr ⟨List.mem_cons_of_mem _ h1, h2, h3⟩
theorem cells_acc : ∀ {names : List (Str × NameKind)} {n : Nat} {acc : List (Str × Addr)} {p : Str × Addr}, p ∈ acc → p ∈ cellsFrom n names acc
  | [], _, _, _, h => h
  | (m, k) :: r, n, acc, p, h => by
    unfold cellsFrom
    split
    · exact cells_acc (List.mem_cons_of_mem _ h)
    · exact cells_acc h
theorem cells_has : ∀ {names : List (Str × NameKind)} {n : Nat} {acc : List (Str × Addr)} {x : Str}, (x, .cell) ∈ names → ∃ c, (x, c) ∈ cellsFrom n names acc
  | (m, k) :: r, n, acc, x, h => by
    unfold cellsFrom
    rcases List.mem_cons.mp h with e | h
    · cases e
      exact ⟨n, cells_acc List.mem_cons_self⟩
    · split
      · exact cells_has h
      · exact cells_has h
theorem cells_inj : ∀ {names : List (Str × NameKind)} {h : Heap} {acc : List (Str × Addr)} {x y : Str} {c : Addr}, (∀ p ∈ acc, p.2 < h.objs.size) → (∀ x y c, (x, c) ∈ acc → (y, c) ∈ acc → x = y) →
    (x, c) ∈ cellsFrom h.objs.size names acc → (y, c) ∈ cellsFrom h.objs.size names acc → x = y
  | [], _, _, _, _, _, _, hi, h1, h2 => hi _ _ _ h1 h2
  | (n, k) :: r, h, acc, x, y, c, hl, hi, h1, h2 => by
    unfold cellsFrom at h1 h2
    split at h1
    · rename_i hk
      rw [if_pos hk] at h2
      rw [← Heap.size_push h { cls := .type "cell", data := .cell none }] at h1 h2
      refine cells_inj (h := h.push _) (fun p hp => ?_) (fun x y c a b => ?_) h1 h2
      · rw [Heap.size_push]
        rcases List.mem_cons.mp hp with rfl | hp
        · exact Nat.lt_succ_self _
        · exact Nat.lt_succ_of_lt (hl p hp)
      · rcases List.mem_cons.mp a with e | a <;> rcases List.mem_cons.mp b with e' | b
        · cases e; cases e'; rfl
        · cases e; exact absurd (hl _ b) (Nat.lt_irrefl _)
        · cases e'; exact absurd (hl _ a) (Nat.lt_irrefl _)
        · exact hi _ _ _ a b
    · rename_i hk
      rw [if_neg hk] at h2
      exact cells_inj hl hi h1 h2

theorem newEnv_comp {M : Model} {A : Around} {E : Value → Shared → Prop} {s : Shared} {scope : Scope} {globals : Addr} {closure : List (Str × Addr)} {qual : Str} {func : Option Addr} {code : Value} {around : Env} {builtins : Addr} {Q : Env → Shared → Prop}
    (h : Q (newEnv scope s.heap.objs.size globals (cellsFrom (s.heap.objs.size + 1) scope.names closure) qual func code (some around) builtins)
      { s with heap := pushCells (s.heap.push { cls := .type "dict", data := .dict #[] }) scope.names }) :
    wpAny M A (newFunctionEnv scope globals closure [] qual func code (some around) builtins) Q E s := by
  simp only [newFunctionEnv, Option.isSome_some, if_true]
  refine wpAny_bind (wpAny_alloc ?_)
  refine wpAny_bind (wpAny_layCells _ (fun n k c => rfl) scope.names closure _ _ ?_)
  rw [show ({ s with heap := s.heap.push { cls := .type "dict", data := .dict #[] } } : Shared).heap.objs.size = s.heap.objs.size + 1 from Heap.size_push ..]
  rw [List.forIn_nil]
  exact wpAny_bind (wpAny_pure (wpAny_pure h))

/-- every name of the written scope, in the scope that runs -/
theorem lookup_relS {sc : Scope} : ∀ {names : List (Str × NameKind)} {x : Str} {k : NameKind},
    (names.map fun (n, k) => if (k == NameKind.free && sc.kind == .function && sc.names.lookup n == some .cell) then (n, NameKind.cell) else (n, k)).lookup x = some k →
    ∃ k', names.lookup x = some k' ∧ (k = k' ∨ (k' = .free ∧ k = .cell))
  | [], _, _, h => by simp at h
  | (n, k₀) :: r, x, k, h => by
    have ih := @lookup_relS sc r x k
    have h' : List.lookup x ((if (k₀ == NameKind.free && sc.kind == .function && sc.names.lookup n == some .cell) = true then (n, NameKind.cell) else (n, k₀)) :: (r.map _)) = some k := h
    cases hx : x == n with
    | true =>
      simp only [List.lookup_cons, hx]
      by_cases hc : (k₀ == NameKind.free && sc.kind == .function && sc.names.lookup n == some .cell) = true
      · rw [if_pos hc] at h'
        simp only [List.lookup_cons, hx] at h'
        cases h'
        simp only [Bool.and_eq_true, beq_iff_eq] at hc
        exact ⟨k₀, rfl, .inr ⟨hc.1.1, rfl⟩⟩
      · rw [if_neg hc] at h'
        simp only [List.lookup_cons, hx] at h'
        cases h'
        exact ⟨_, rfl, .inl rfl⟩
    | false =>
      simp only [List.lookup_cons, hx]
      by_cases hc : (k₀ == NameKind.free && sc.kind == .function && sc.names.lookup n == some .cell) = true
      · rw [if_pos hc] at h'
        simp only [List.lookup_cons, hx] at h'
        exact ih h'
      · rw [if_neg hc] at h'
        simp only [List.lookup_cons, hx] at h'
        exact ih h'



/-- the names of a comprehension's block: its own (with their places in N), or captured -/
structure BlkOk (N : List Str) (sc scope : Scope) (own : List (Str × Nat)) : Prop where
  kind : scope.kind = .function
  uniq : ∀ y ∈ scope.names, scope.names.lookup y.1 = some y.2
  ix : ∀ p ∈ own, N[p.2]? = some p.1
  free : ∀ y ∈ scope.names, y.2 = .free → sc.names.lookup y.1 = some .cell ∨ sc.names.lookup y.1 = some .free
  own : ∀ y ∈ scope.names, y.2 = .local ∨ y.2 = .cell → y.1 ∈ own.map (·.1) ∨ y.1 ∉ N
/-- the slots of the block's own names forgotten -/
def wipe (σ : St) : List Nat → St
  | [] => σ
  | v :: vs => (wipe σ vs).set v none
theorem wipe_length (σ : St) : ∀ vs : List Nat, (wipe σ vs).length = σ.length
  | [] => rfl
  | v :: vs => by unfold wipe; rw [List.length_set, wipe_length σ vs]
theorem wipe_some {σ : St} {i : Nat} {x : V} : ∀ {vs : List Nat}, (wipe σ vs)[i]? = some (some x) → σ[i]? = some (some x) ∧ i ∉ vs
  | [], h => ⟨h, by simp⟩
  | v :: vs, h => by
    unfold wipe at h
    by_cases hi : v = i
    · subst hi
      by_cases hv : v < (wipe σ vs).length
      · rw [List.getElem?_set_self hv] at h; cases h
      · rw [List.getElem?_eq_none (by simpa using hv)] at h; cases h
    · rw [List.getElem?_set_ne hi] at h
      obtain ⟨h1, h2⟩ := wipe_some h
      exact ⟨h1, by simp only [List.mem_cons, not_or]; exact ⟨fun e => hi e.symm, h2⟩⟩

/-- the context of a block that starts at s, its iterator's objects at fp -/
abbrev Cx.blk (X : Cx) (s : Shared) (H : Hp) (scope : Scope) (cenv : Env) (fp : List Addr) : Cx := { X with s_0 := s, H_0 := H, env := cenv, outer := X.stack, ex := fp, fn := fun x => scope.names.lookup x == some .cell, pn := [], xe := fun _ _ => False }
section
variable {X : Cx} {pins : List (Addr × Obj)} {σ : St} {H : Hp} {s : Shared}
theorem block_start {scope : Scope} {own : List (Str × Nat)} {fp : List Addr} (I : Inv X pins σ H s) (ok : BlkOk X.N X.env.scope scope own) (hN : X.N.Nodup) (hfp : ∀ b ∈ fp, FpOk X pins H b ∧ b < s.heap.objs.size) :
    Inv (X.blk s H scope (compEnvC scope (cellsFrom (s.heap.objs.size + 1) scope.names (cloFrom X.env.cells scope.names [])) s.heap.objs.size X.env) fp) [] (wipe σ (own.map (·.2))) H { s with heap := pushCells (s.heap.push { cls := .type "dict", data := .dict #[] }) scope.names } := by
  have hfree : ∀ y ∈ scope.names, y.2 = .free → ∃ c, X.env.cells.lookup y.1 = some c := fun y hy e => by
    rcases ok.free y hy e with k | k
    · exact I.ok.has _ (.inl k)
    · exact I.ok.has _ (.inr k)
  generalize hcenv : compEnvC scope (cellsFrom (s.heap.objs.size + 1) scope.names (cloFrom X.env.cells scope.names [])) s.heap.objs.size X.env = cenv
  have kp : ∀ b o, s.heap.get? b = some o → (pushCells (s.heap.push { cls := .type "dict", data := .dict #[] }) scope.names).get? b = some o := fun b o e => pushCells_keeps _ _ _ _ (Heap.get?_push_of_some _ e)
  have hL : cenv.locals = s.heap.objs.size := by rw [← hcenv]; rfl
  have hcl : cenv.cells = cellsFrom (s.heap.objs.size + 1) scope.names (cloFrom X.env.cells scope.names []) := by rw [← hcenv]; rfl
  have hsc : cenv.scope = relS scope X.env.scope := by rw [← hcenv]; rfl
  rw [← Heap.size_push s.heap { cls := .type "dict", data := .dict #[] }] at hcl
  have cm : ∀ {y c}, (y, c) ∈ cloFrom X.env.cells scope.names [] → X.env.cells.lookup y = some c ∧ c < s.heap.objs.size := fun {y c} hm => by
    rcases cloFrom_mem hm with hm | ⟨h1, rfl⟩
    · cases hm
    · obtain ⟨c, hc⟩ := hfree _ h1 rfl
      rw [hc]
      obtain ⟨w, z⟩ := I.cell _ _ hc
      exact ⟨rfl, z.lt⟩
  have mem : ∀ {y c}, cenv.cells.lookup y = some c → (X.env.cells.lookup y = some c ∧ c < s.heap.objs.size) ∨ (s.heap.objs.size + 1 ≤ c ∧ CellAt (pushCells (s.heap.push { cls := .type "dict", data := .dict #[] }) scope.names) c none) := fun {y c} e => by
    rw [hcl] at e
    rcases cells_mem (PySem.mem_of_lookup e) with hm | ⟨_, h2, h3⟩
    · exact .inl (cm hm)
    · rw [Heap.size_push] at h2; exact .inr ⟨h2, h3⟩
  have look : ∀ {y}, scope.names.lookup y = some .free → ∃ c, cenv.cells.lookup y = some c ∧ X.env.cells.lookup y = some c := fun {y} hl => by
    have hy : (y, NameKind.free) ∈ scope.names := PySem.mem_of_lookup hl
    obtain ⟨c', e'⟩ := mem_lookup (cells_acc (names := scope.names) (n := (s.heap.push { cls := .type "dict", data := .dict #[] }).objs.size) (cloFrom_has (cells := X.env.cells) (acc := []) hy))
    rw [← hcl] at e'
    refine ⟨c', e', ?_⟩
    rw [hcl] at e'
    rcases cells_mem (PySem.mem_of_lookup e') with hm | ⟨h1, _, _⟩
    · exact (cm hm).1
    · have := ok.uniq _ h1
      rw [hl] at this; cases this
  have okB : (X.blk s H scope cenv fp).Ok := by
    refine ⟨I.ok.mod, by show cenv.scope.kind = _; rw [hsc]; exact ok.kind, by show cenv.globals = _; rw [← hcenv]; exact I.ok.glob, by show cenv.builtins = _; rw [← hcenv]; exact I.ok.blt, by show s.heap.objs.size ≤ cenv.locals; rw [hL]; exact Nat.le_refl _,
      fun y z c e1 e2 => ?_, fun y hy => ?_, fun y c z e => ?_, I.ok.hd, I.ok.frames, .inl rfl, fun b hb => ⟨?_, fun y c e z => ?_⟩, I.bs, Nat.le_trans I.ok.bsz I.sz, fun b o e hb => ?_, fun b hb z => ?_, I.stack, I.stkFree⟩
    · have e1 : cenv.cells.lookup y = some c := e1
      have e2 : cenv.cells.lookup z = some c := e2
      rw [hcl] at e1 e2
      refine cells_inj (fun p hp => ?_) (fun y z c a b => I.ok.inj y z c (cm a).1 (cm b).1) (PySem.mem_of_lookup e1) (PySem.mem_of_lookup e2)
      rw [Heap.size_push]
      exact Nat.lt_succ_of_lt (cm (y := p.1) (c := p.2) hp).2
    · show ∃ c, cenv.cells.lookup y = some c
      have key : ∀ k, cenv.kindOf y = some k → (k = .cell ∨ k = .free) → ∃ c, cenv.cells.lookup y = some c := fun k hk hk' => by
        unfold Env.kindOf at hk
        rw [hsc] at hk
        obtain ⟨k', e, r⟩ := lookup_relS hk
        have : k' = .cell ∨ k' = .free := by
          rcases r with rfl | ⟨rfl, _⟩
          · exact hk'
          · exact .inr rfl
        rcases this with rfl | rfl
        · obtain ⟨c, hm⟩ := cells_has (n := (s.heap.push { cls := .type "dict", data := .dict #[] }).objs.size) (acc := cloFrom X.env.cells scope.names []) (PySem.mem_of_lookup e)
          obtain ⟨c', e'⟩ := mem_lookup hm
          exact ⟨c', by rw [hcl]; exact e'⟩
        · obtain ⟨c, h1, _⟩ := look e
          exact ⟨c, h1⟩
      rcases hy with hy | hy
      · exact key _ hy (.inl rfl)
      · exact key _ hy (.inr rfl)
    · have z : (scope.names.lookup y == some NameKind.cell) = true := z
      have z : scope.names.lookup y = some .cell := by simpa using z
      have e : cenv.cells.lookup y = some c := e
      rw [hcl] at e
      rcases cells_mem (PySem.mem_of_lookup e) with hm | ⟨_, h2, _⟩
      · rcases cloFrom_mem hm with hm | ⟨h1, _⟩
        · cases hm
        · have q := ok.uniq _ h1
          rw [z] at q; cases q
      · rw [Heap.size_push] at h2
        exact Nat.le_of_succ_le h2
    · show b ≠ cenv.locals
      rw [hL]; exact Nat.ne_of_lt (hfp b hb).2
    · have e : cenv.cells.lookup y = some c := e
      rcases mem e with ⟨h1, _⟩ | ⟨h1, _⟩
      · exact (hfp b hb).1.2.2.2.2.1 y c h1 z
      · have h2 : s.heap.objs.size + 1 ≤ b := by rw [← z]; exact h1
        exact absurd (Nat.lt_of_lt_of_le (hfp b hb).2 (Nat.le_of_succ_le h2)) (Nat.lt_irrefl _)
    · rcases (hfp b hb).1.2.2.2.1 with z | z
      · exact I.ok.noex b o e z
      · exact absurd (Nat.lt_of_lt_of_le (Heap.lt_size e) (Nat.le_trans I.ok.bsz z)) (Nat.lt_irrefl _)
    · rcases List.mem_cons.mp (I.stkSub b z) with z | z
      · exact (hfp b hb).1.2.1 z
      · exact (hfp b hb).1.2.2.1 z
  refine ⟨okB, rfl, I.bare, Un.kept kp, ⟨fun _ => none, ?_, fun i y av e1 e2 e3 => ?_⟩, fun y c e => ?_, ?_, fun y c e => ?_, fun p hp => ?_, I.hok.kept kp, by rw [wipe_length]; exact I.len⟩
  · show Heap.Ns _ cenv.locals _
    rw [hL]
    exact Heap.Ns.keeps (Heap.Ns.new ..) fun b o e => pushCells_keeps _ _ _ _ e
  · obtain ⟨e2, hne⟩ := wipe_some e2
    have hfr : scope.names.lookup y = some .free ∧ (cenv.kindOf y = some .cell ∨ cenv.kindOf y = some .free) := by
      have key : ∀ k, cenv.scope.names.lookup y = some k → k = .local ∨ k = .cell ∨ k = .free → scope.names.lookup y = some .free ∧ (cenv.kindOf y = some .cell ∨ cenv.kindOf y = some .free) := fun k hk hk' => by
        have hk0 := hk
        rw [hsc] at hk
        obtain ⟨k', e, r⟩ := lookup_relS hk
        have no : ¬ (k' = .local ∨ k' = .cell) := fun hh => by
          rcases ok.own _ (PySem.mem_of_lookup e) hh with e' | e'
          · obtain ⟨p, hp, hpy⟩ := List.mem_map.mp e'
            have e3 := ok.ix p hp
            have : p.1 = y := hpy
            rw [this] at e3
            exact hne (List.mem_map.mpr ⟨p, hp, nodup_ix hN e3 e1⟩)
          · exact e' (List.mem_of_getElem? e1)
        rcases r with rfl | ⟨rfl, rfl⟩
        · rcases hk' with rfl | rfl | rfl
          · exact absurd (.inl rfl) no
          · exact absurd (.inr rfl) no
          · exact ⟨e, .inr hk0⟩
        · exact ⟨e, .inl hk0⟩
      have e3 : Vis cenv.scope y := e3
      rcases e3 with e3 | e3 | e3
      · exact key _ e3 (.inl rfl)
      · exact key _ e3 (.inr (.inl rfl))
      · exact key _ e3 (.inr (.inr rfl))
    obtain ⟨m, hn, hl⟩ := I.loc
    have hvis : Vis X.env.scope y := (ok.free _ (PySem.mem_of_lookup hfr.1) rfl).elim (fun k => .inr (.inl k)) (fun k => .inr (.inr k))
    obtain ⟨w, r, q⟩ := hl i y av e1 e2 hvis
    refine ⟨w, r, .inr ⟨hfr.2, ?_⟩⟩
    obtain ⟨c, h1, h2⟩ := look hfr.1
    rcases q with ⟨k, _⟩ | ⟨_, c', e', z⟩
    · have k : X.env.scope.names.lookup y = some .local := k
      rcases ok.free _ (PySem.mem_of_lookup hfr.1) rfl with k' | k' <;> rw [show X.env.scope.names.lookup y = _ from k'] at k <;> cases k
    · rw [h2] at e'; cases e'
      exact ⟨c, h1, z.keeps kp⟩
  · have e : cenv.cells.lookup y = some c := e
    rcases mem e with ⟨h1, _⟩ | ⟨_, z⟩
    · obtain ⟨w, z⟩ := I.cell y c h1
      exact ⟨w, z.keeps kp⟩
    · exact ⟨_, z⟩
  · show H cenv.locals = none
    rw [hL]; exact I.hok.fresh (Nat.le_refl _)
  · have e : cenv.cells.lookup y = some c := e
    rcases mem e with ⟨h1, _⟩ | ⟨h1, _⟩
    · exact I.freeC y c h1
    · exact I.hok.fresh (Nat.le_of_succ_le h1)
  · exact absurd (show p ∈ ([] : List (Addr × Obj)) ++ [] from hp) (by simp)

/-- an item appended to a tracked list -/
theorem app_ok {E : Value → Shared → Prop} {D : Addr} {xs : List V} {y : V} {v : Value} {Q : Value → Shared → Prop} (I : Inv X pins σ H s) (hD : H D = some (.lst xs)) (hz : xs.length < sizeLine) (r : RelV y v)
    (h : ∀ s', Inv X pins σ (upd H D (.lst (xs ++ [y]))) s' → Q .none s') : wpAny (model X.prog X.w) X.A (call (.builtin "list.append") [.ref D, v]) Q E s := by
  obtain ⟨hz', its, n, ri, e⟩ := I.hok D _ hD
  have hl := ri.length
  refine append_at (hsz := by rw [List.size_toArray]; omega) e fun h' sb ho' => ?_
  refine h { s with heap := h' } (I.write (t' := s.toks) (by rw [hD]; trivial) (.inl rfl) (fun b u hb q => (sb.2 b hb).trans q) ⟨_, ho'⟩ ⟨by rw [List.length_append]; exact hz, its ++ [v], n + 1, ri.append (.cons r .nil), ?_⟩)
  rw [ho']
  simp

/-- a clause's tests -/
def PTs (X : Cx) (ifs : List Expr) (t : TT) : Prop :=
  ∀ (pins : List (Addr × Obj)) (s : Shared) (σ : St) (H : Hp) (Q : Bool → Hp → Prop), Inv X pins σ H s → t σ H Q →
    wpAny (model X.prog X.w) X.A (forIn ifs true fun c r => if r = true then do let ok ← isTrue c X.env (eval c X.env); pure (ForInStep.yield ok) else pure (ForInStep.yield r)) (TP X pins σ Q) X.xe s
def tYes : TT := fun _ H Q => Q true H
theorem pts_nil : PTs X [] tYes := fun _ _ _ H _ I h => wpAny_tests_nil ⟨H, I, h⟩
end

theorem thnF {α : Type} {t : Sem α} {Q Q' : α → Shared → Prop} {M : Model} {A : Around} {E : Value → Shared → Prop} {s : Shared} (h : wpAny M A t Q (fun _ _ => False) s) (hQ : ∀ a s, Q a s → Q' a s) : wpAny M A t Q' E s := wpAny_mono h hQ fun _ _ z => False.elim z

/-- the loop of a list comprehension's block, the target of any form (codeAny_compLoop_tests asks a target that no tuple goes to; statement and proof follow it, PyProof/CompMap.lean:41-61, with the step letOwnedTupleGo kept) -/
theorem compLoop_any {prog : Program} {w : World} {A : Around} {R : Result → Shared → Prop} {s : Shared} {elt target iter : Expr} {ifs : List Expr} {scope : Scope} {pos : Pos} {it acc : Value} {env : Env} (I : Nat → Shared → Prop)
    (turn : ∀ n s, I n s → wpAny (model prog w) A (pyNext it) (fun r s₁ => match r with
      | none => R (.ok .next) s₁
      | some v => wpAny (model prog w) A (letOwnedTupleGo target it v) (fun _ s₁' => wpAny (model prog w) A (assign target env v) (fun _ s₂ =>
          wpAny (model prog w) A (forIn ifs true fun c r => if r = true then do let ok ← isTrue c env (eval c env); pure (ForInStep.yield ok) else pure (ForInStep.yield r)) (fun ok s₃ =>
            if ok = true then wpAny (model prog w) A (eval elt env) (fun x s₄ =>
              wpAny (model prog w) A (call (.builtin "list.append") [acc, x]) (fun _ s₅ => ∃ m, m < n ∧ I m s₅) (notedBy (model prog w) A env fun e s' => R (.error e) s') s₄) (notedBy (model prog w) A env fun e s' => R (.error e) s') s₃
            else ∃ m, m < n ∧ I m s₃) (notedBy (model prog w) A env fun e s' => R (.error e) s') s₂) (notedBy (model prog w) A env fun e s' => R (.error e) s') s₁') (notedBy (model prog w) A env fun e s' => R (.error e) s') s₁) (notedBy (model prog w) A env fun e s' => R (.error e) s') s)
    (n : Nat) (h : I n s) :
    codeAny (model prog w) A (.compLoop (.ListComp elt [⟨target, iter, ifs, 0⟩] scope pos) 0 it acc env) R s := by
  refine codeAny_loop rfl I (fun n s hI => ?_) n h
  show wpAny _ A ((compTurn (.ListComp elt [⟨target, iter, ifs, 0⟩] scope pos) 0 it acc env).onRaise (fun x => do noteFrame x env; theTreesLotGoes x)) _ _ s
  refine wpAny_noted ?_
  rw [compTurn_list]
  refine wpAny_bind (wpAny_standAt (wpAny_bind (wpAny_mono (turn n s hI) (fun r s₁ h₁ => ?_) fun _ _ h' => h')))
  cases r with
  | none => exact wpAny_pure h₁
  | some v =>
    refine wpAny_bind (wpAny_mono h₁ (fun _ s₁' h₁' => ?_) fun _ _ h' => h')
    refine wpAny_bind (wpAny_mono h₁' (fun _ s₂ h₂ => wpAny_bind (wpAny_mono h₂ (fun ok s₃ h₃ => ?_) fun _ _ h' => h')) fun _ _ h' => h')
    cases ok with
    | false => exact wpAny_pure ⟨rfl, h₃⟩
    | true =>
      exact wpAny_bind (wpAny_bind (wpAny_mono h₃ (fun x s₄ h₄ => wpAny_bind (wpAny_mono h₄ (fun _ s₅ h₅ => wpAny_pure (wpAny_pure ⟨rfl, h₅⟩)) fun _ _ h' => h')) fun _ _ h' => h'))

section
variable {X : Cx}
/-- [elt for target in iter if ..]: D the new list; W by the turn and a measure, Nx what a turn is to reach -/
def tLc (wi : TI) (g : TG) (tt : TT) (te : TE) (vs : List Nat) : TE := fun σ H Q => wi σ H fun J H1 => ∀ D, H1 D = none → ∃ W : Nat → Nat → Hp → Prop, (∃ m, W 0 m (upd H1 D (.lst []))) ∧ ∀ i m H, W i m H →
  (J.stop i H ∧ Q (.ref D) H) ∨ (J.go i H ∧ ∃ Nx : Hp → Prop, (∀ H', Nx H' → ∃ m', m' < m ∧ W (i + 1) m' H') ∧ ∀ x H', J.yld i H x H' → g x (wipe σ vs) H' fun σ2 H2 => wipe σ2 vs = wipe σ vs ∧ tt σ2 H2 fun b H3 =>
    if b = true then te σ2 H3 fun y H4 => ∃ acc, H4 D = some (.lst acc) ∧ acc.length < sizeLine ∧ Nx (upd H4 D (.lst (acc ++ [y]))) else Nx H3)
theorem lc_core {pins : List (Addr × Obj)} {s : Shared} {σ : St} {H : Hp} {Q : VK} {elt tg iter : Expr} {ifs : List Expr} {scope : Scope} {own : List (Str × Nat)} {pos pos' : Pos} {wi : TI} {g : TG} {tt : TT} {te : TE} {use : Option (Value → Sem Unit)} {Qf : Value → Shared → Prop}
    (hc : X.calm = true) (hN : X.N.Nodup) (I : Inv X pins σ H s) (hi : PI X tg iter wi) (ok : BlkOk X.N X.env.scope scope own)
    (hg : ∀ (s : Shared) (H : Hp) (C : Addr) (cl : List (Str × Addr)) (fp : List Addr), PG (X.blk s H scope (compEnvC scope cl C X.env) fp) tg g) (ht : ∀ (s : Shared) (H : Hp) (C : Addr) (cl : List (Str × Addr)) (fp : List Addr), PTs (X.blk s H scope (compEnvC scope cl C X.env) fp) ifs tt)
    (he : ∀ (s : Shared) (H : Hp) (C : Addr) (cl : List (Str × Addr)) (fp : List Addr), PE (X.blk s H scope (compEnvC scope cl C X.env) fp) elt te) (hs : ∀ x, foldedSetIterable iter X.env x = pure x)
    (h : tLc wi g tt te (own.map (·.2)) σ H Q)
    (hRR : ∀ D C s' m H', Inv X pins σ H' s' → Q (.ref D) H' → s'.heap.Ns C m → FpOk X pins H' C → compPost (model X.prog X.w) X.A X.xe use Qf (.ref D) C (.ok .next) s') :
    wpAny (model X.prog X.w) X.A (comprehension (.ListComp elt [⟨tg, iter, ifs, 0⟩] scope pos) scope X.env pos' (newList []) false (eval iter X.env) use) Qf X.xe s := by
  have hfree : ∀ y ∈ scope.names, y.2 = .free → ∃ c, X.env.cells.lookup y.1 = some c := fun y hy e => by
    rcases ok.free y hy e with k | k
    · exact I.ok.has _ (.inl k)
    · exact I.ok.has _ (.inr k)
  refine wpAny_comprehension_free (use := use) rfl hs (closure_ok hfree) ok.kind (fun y hy e => by rw [ok.uniq y hy, e])
    (thn (hi pins s σ H _ I h) fun xv s1 hx => thn hx fun itv s2 h2 => ?_)
  obtain ⟨it, fp, tn, J, H2, e, I2, T, st2, f2, q⟩ := h2
  subst e
  refine wpAny_newObj_type (newEnv_comp ?_) (by show 0 ≤ sizeLine; decide)
  generalize hD : s2.heap.objs.size = D
  have hDn : H2 D = none := I2.hok.fresh (Nat.le_of_eq hD)
  obtain ⟨W, ⟨m0, w0⟩, turn⟩ := q D hDn
  -- the new list
  generalize hs3 : ({ s2 with heap := s2.heap.push { cls := .type "list", data := .seq ([] : List Value).toArray } } : Shared) = s3
  have I3 : Inv X pins σ (upd H2 D (.lst [])) s3 := by
    rw [← hs3]
    refine I2.laid (t' := s2.toks) (fun b o e => Heap.get?_push_of_some _ e) (Nat.le_of_eq hD) ⟨Nat.zero_le _, [], 0, .nil, ?_⟩
    rw [← hD]
    exact Heap.get?_push_size _ rfl
  have h3 : s3.heap = s2.heap.push { cls := .type "list", data := .seq ([] : List Value).toArray } := by rw [← hs3]
  have sz : ∀ b ∈ fp, b < s2.heap.objs.size := fun b hb => by
    obtain ⟨o, e, _⟩ := T.obj _ _ st2 b hb
    exact Heap.lt_size e
  have f3 : ∀ b ∈ fp, FpOk X pins (upd H2 D (.lst [])) b ∧ b < s3.heap.objs.size := fun b hb => by
    have hlt := sz b hb
    refine ⟨⟨?_, (f2 b hb).2⟩, by rw [h3, Heap.size_push]; exact Nat.lt_succ_of_lt hlt⟩
    rw [upd_ne (by rw [← hD]; exact Nat.ne_of_lt hlt)]
    exact (f2 b hb).1
  have st3 : tn 0 s3.heap := T.keep _ _ _ st2 fun b _ o e => by rw [h3]; exact Heap.get?_push_of_some _ e
  have I4 := block_start I3 ok hN f3
  have pg := hg s3 (upd H2 D (.lst [])) s3.heap.objs.size (cellsFrom (s3.heap.objs.size + 1) scope.names (cloFrom X.env.cells scope.names [])) fp
  have pt := ht s3 (upd H2 D (.lst [])) s3.heap.objs.size (cellsFrom (s3.heap.objs.size + 1) scope.names (cloFrom X.env.cells scope.names [])) fp
  have pe := he s3 (upd H2 D (.lst [])) s3.heap.objs.size (cellsFrom (s3.heap.objs.size + 1) scope.names (cloFrom X.env.cells scope.names [])) fp
  show codeAny _ _ (.compStart (.ListComp elt [⟨tg, iter, ifs, 0⟩] scope pos) 0 (.ref it) (.ref D) (compEnvC scope (cellsFrom (s3.heap.objs.size + 1) scope.names (cloFrom X.env.cells scope.names [])) s3.heap.objs.size X.env)) (compPost (model X.prog X.w) X.A X.xe use Qf (.ref D) s3.heap.objs.size) { s3 with heap := pushCells (s3.heap.push { cls := .type "dict", data := .dict #[] }) scope.names }
  have nfp : ∀ b ∈ fp, (upd H2 D (.lst [])) b = none := fun b hb => (f3 b hb).1.1
  generalize hce : compEnvC scope (cellsFrom (s3.heap.objs.size + 1) scope.names (cloFrom X.env.cells scope.names [])) s3.heap.objs.size X.env = ce at I4 pg pt pe ⊢
  have cL : ce.locals = s3.heap.objs.size := by subst hce; rfl
  generalize hH3 : upd H2 D (.lst []) = H3 at I3 I4 pg pt pe w0 nfp f3
  generalize hs4 : ({ s3 with heap := pushCells (s3.heap.push { cls := .type "dict", data := .dict #[] }) scope.names } : Shared) = s4 at I4 ⊢
  have st4 : tn 0 s4.heap := T.keep _ _ _ st3 fun b _ o e => by rw [← hs4]; exact pushCells_keeps _ _ _ _ (Heap.get?_push_of_some _ e)
  have stat : ∀ {σ' : St} {H' : Hp} {s' : Shared}, Inv (X.blk s3 H3 scope ce fp) [] σ' H' s' → (∀ b ∈ fp, H' b = none) → ∀ b ∈ fp, FpOk (X.blk s3 H3 scope ce fp) [] H' b := fun {σ' H' s'} I' hn b hb =>
    ⟨hn b hb, (I'.ok.exf b hb).1, I'.ok.exfs b hb, .inl hb, fun x c e => (I'.ok.exf b hb).2 x c e, fun p hp => absurd (show p ∈ ([] : List (Addr × Obj)) ++ [] from hp) (by simp)⟩
  have loop : codeAny (model X.prog X.w) X.A (.compLoop (.ListComp elt [⟨tg, iter, ifs, 0⟩] scope pos) 0 (.ref it) (.ref D) ce) (compPost (model X.prog X.w) X.A X.xe use Qf (.ref D) s3.heap.objs.size) s4 := by
    refine compLoop_any (fun n s' => ∃ i H', Inv (X.blk s3 H3 scope ce fp) [] (wipe σ (own.map (·.2))) H' s' ∧ tn i s'.heap ∧ (∀ b ∈ fp, H' b = none) ∧ W i n H') ?_ m0 ⟨0, H3, I4, st4, nfp, w0⟩
    rintro n s5 ⟨i, H5, I5, st5, n5, w5⟩
    rcases turn i n H5 w5 with ⟨stop, qq⟩ | ⟨go, Nx, hNx, step⟩
    · have td := T.done (X.blk s3 H3 scope ce fp) rfl rfl rfl hc i [] s5 _ H5 (fun _ _ => False) I5 (stat I5 n5) st5 stop
      refine thnF td fun r s6 ⟨hr, I6⟩ => ?_
      subst hr
      -- back in the def's context
      have I7 : Inv X pins σ H5 s6 := I3.call' (ch := fp) I6.os I6.base I6.hok I6.bare fun b hb => ⟨(f3 b hb).1.2.2.2.1, (f3 b hb).1.2.1, (f3 b hb).1.2.2.2.2.1, (f3 b hb).1.2.2.2.2.2⟩
      have nC : H5 s3.heap.objs.size = none := by
        have z : H5 ce.locals = none := I6.free
        rw [cL] at z
        exact z
      obtain ⟨m, hn, _⟩ := I6.loc
      have hn : s6.heap.Ns ce.locals m := hn
      rw [cL] at hn
      exact hRR D s3.heap.objs.size s6 m H5 I7 qq hn (I3.fpOk (Nat.le_refl _) nC)
    · have ti := T.item (X.blk s3 H3 scope ce fp) rfl rfl rfl hc i [] s5 _ H5 (fun _ _ => False) I5 (stat I5 n5) st5 go
      refine thnF ti fun r s6 ⟨u, hr, h6⟩ => ?_
      subst hr
      refine thnF h6 fun _ s7 ⟨x, H7, I7, r7, y7, st7, n7⟩ => ?_
      have I7' := I7.pinned (stat I7 n7) (T.obj _ _ st7)
      refine thnF (pg _ s7 _ H7 x u _ I7' r7 (step x H7 y7)) fun _ s8 ⟨σ8, H8, I8, hw8, q8⟩ => ?_
      refine thnF (pt _ s8 σ8 H8 _ I8 q8) fun b s9 ⟨H9, I9, q9⟩ => ?_
      -- the turn's end
      have fin : ∀ {s' : Shared} {H' : Hp}, Inv (X.blk s3 H3 scope ce fp) ([] ++ pinsAt fp s7.heap) σ8 H' s' → Nx H' → ∃ m, m < n ∧ ∃ i H', Inv (X.blk s3 H3 scope ce fp) [] (wipe σ (own.map (·.2))) H' s' ∧ tn i s'.heap ∧ (∀ b ∈ fp, H' b = none) ∧ W i m H' := fun {s' H'} I' nx => by
        obtain ⟨m', hm, w'⟩ := hNx H' nx
        have pin' : ∀ b ∈ fp, ∀ o, s7.heap.get? b = some o → s'.heap.get? b = some o ∧ H' b = none := fun b hb o e =>
          let z := I'.pin (b, o) (List.mem_append_right _ (List.mem_append_right _ (mem_pinsAt hb e)))
          ⟨z.1, z.2.1⟩
        have hl : (wipe σ (own.map (·.2))).length = σ8.length := by rw [← hw8, wipe_length]
        refine ⟨m', hm, i + 1, H', (I'.unpinned (pins := [])).weak hl (fun j v e => ?_), T.keep _ _ _ st7 fun b hb o e => (pin' b hb o e).1, fun b hb => ?_, w'⟩
        · rw [← hw8] at e
          exact (wipe_some e).1
        · obtain ⟨o, e, _⟩ := T.obj _ _ st7 b hb
          exact (pin' b hb o e).2
      cases b with
      | false =>
        simp only [Bool.false_eq_true, if_false] at q9 ⊢
        exact fin I9 q9
      | true =>
        simp only [if_true] at q9 ⊢
        refine thnF (pe _ s9 σ8 H9 _ I9 q9) fun z s10 ⟨yv, H10, I10, r10, acc, hD10, hz10, nx⟩ => ?_
        exact app_ok (X := X.blk s3 H3 scope ce fp) I10 hD10 hz10 r10 fun s11 I11 => fin I11 nx
  exact codeAny_compStart_list loop (T.self X.A 0 _ _ _ st4 loop)
/-- as a value -/
theorem pe_lc {elt tg iter : Expr} {ifs : List Expr} {scope : Scope} {own : List (Str × Nat)} {pos : Pos} {wi : TI} {g : TG} {tt : TT} {te : TE} (hc : X.calm = true) (hN : X.N.Nodup) (hi : PI X tg iter wi) (ok : BlkOk X.N X.env.scope scope own)
    (hg : ∀ (s : Shared) (H : Hp) (C : Addr) (cl : List (Str × Addr)) (fp : List Addr), PG (X.blk s H scope (compEnvC scope cl C X.env) fp) tg g) (ht : ∀ (s : Shared) (H : Hp) (C : Addr) (cl : List (Str × Addr)) (fp : List Addr), PTs (X.blk s H scope (compEnvC scope cl C X.env) fp) ifs tt)
    (he : ∀ (s : Shared) (H : Hp) (C : Addr) (cl : List (Str × Addr)) (fp : List Addr), PE (X.blk s H scope (compEnvC scope cl C X.env) fp) elt te) (hs : ∀ x, foldedSetIterable iter X.env x = pure x := by intro _; rfl) :
    PE X (.ListComp elt [⟨tg, iter, ifs, 0⟩] scope pos) (tLc wi g tt te (own.map (·.2))) := by
  intro pins s σ H Q I h
  rw [eval_ListComp]
  refine lc_core hc hN I hi ok hg ht he hs h fun D C s' m H' I' q hn f => ⟨m, hn, fun h'' sb => ?_⟩
  obtain ⟨f0, f1, f2, f3, f4, f5⟩ := f
  exact ⟨.ref D, H', I'.turned (t' := s'.toks) (fun b o hb e => (sb.2 b hb).trans e) f0 f1 f3 f4 f5, rfl, q⟩
end

/-! ### the forms one uses -/
/-- over a range: Pv by the turn and the heap (the new list at D within) -/
theorem lc_range {lo : Int} {n : Nat} {g : TG} {tt : TT} {te : TE} {vs : List Nat} {σ : St} {H1 : Hp} {D : Addr} {Qd : Hp → Prop} (Pv : Nat → Hp → Prop) (h0 : Pv 0 (upd H1 D (.lst [])))
    (hs : ∀ i H, i < n → Pv i H → g (.int (lo + i)) (wipe σ vs) H fun σ2 H2 => wipe σ2 vs = wipe σ vs ∧ tt σ2 H2 fun b H3 =>
      if b = true then te σ2 H3 fun y H4 => ∃ acc, H4 D = some (.lst acc) ∧ acc.length < sizeLine ∧ Pv (i + 1) (upd H4 D (.lst (acc ++ [y]))) else Pv (i + 1) H3) (hd : ∀ H, Pv n H → Qd H) :
    ∃ W : Nat → Nat → Hp → Prop, (∃ m, W 0 m (upd H1 D (.lst []))) ∧ ∀ i m H, W i m H →
      ((Itr lo n).stop i H ∧ Qd H) ∨ ((Itr lo n).go i H ∧ ∃ Nx : Hp → Prop, (∀ H', Nx H' → ∃ m', m' < m ∧ W (i + 1) m' H') ∧ ∀ x H', (Itr lo n).yld i H x H' → g x (wipe σ vs) H' fun σ2 H2 => wipe σ2 vs = wipe σ vs ∧ tt σ2 H2 fun b H3 =>
        if b = true then te σ2 H3 fun y H4 => ∃ acc, H4 D = some (.lst acc) ∧ acc.length < sizeLine ∧ Nx (upd H4 D (.lst (acc ++ [y]))) else Nx H3) := by
  refine ⟨fun i m H => m = n - i ∧ i ≤ n ∧ Pv i H, ⟨n, by simp, Nat.zero_le _, h0⟩, ?_⟩
  rintro i m H ⟨rfl, hi, p⟩
  by_cases hlt : i < n
  · refine .inr ⟨hlt, Pv (i + 1), fun H' p' => ⟨n - (i + 1), by omega, rfl, hlt, p'⟩, fun x H' y => ?_⟩
    obtain ⟨e, y⟩ := y
    subst e y
    exact hs i _ hlt p
  · have e : i = n := by omega
    subst e
    exact .inl ⟨Nat.le_refl _, hd H p⟩
/-- over a list that the block leaves as it is -/
theorem lc_list {K : PySem.W.Frag} {a : Addr} {xs : List V} {g : TG} {tt : TT} {te : TE} {vs : List Nat} {σ : St} {H1 : Hp} {D : Addr} {Qd : Hp → Prop} (Pv : Nat → Hp → Prop) (h0 : Pv 0 (upd H1 D (.lst []))) (hl : ∀ i H, i ≤ xs.length → Pv i H → SqL K H a xs)
    (hs : ∀ i x H, xs[i]? = some x → Pv i H → g x (wipe σ vs) H fun σ2 H2 => wipe σ2 vs = wipe σ vs ∧ tt σ2 H2 fun b H3 =>
      if b = true then te σ2 H3 fun y H4 => ∃ acc, H4 D = some (.lst acc) ∧ acc.length < sizeLine ∧ Pv (i + 1) (upd H4 D (.lst (acc ++ [y]))) else Pv (i + 1) H3) (hd : ∀ H, Pv xs.length H → Qd H) :
    ∃ W : Nat → Nat → Hp → Prop, (∃ m, W 0 m (upd H1 D (.lst []))) ∧ ∀ i m H, W i m H →
      ((Itl K a).stop i H ∧ Qd H) ∨ ((Itl K a).go i H ∧ ∃ Nx : Hp → Prop, (∀ H', Nx H' → ∃ m', m' < m ∧ W (i + 1) m' H') ∧ ∀ x H', (Itl K a).yld i H x H' → g x (wipe σ vs) H' fun σ2 H2 => wipe σ2 vs = wipe σ vs ∧ tt σ2 H2 fun b H3 =>
        if b = true then te σ2 H3 fun y H4 => ∃ acc, H4 D = some (.lst acc) ∧ acc.length < sizeLine ∧ Nx (upd H4 D (.lst (acc ++ [y]))) else Nx H3) := by
  refine ⟨fun i m H => m = xs.length - i ∧ i ≤ xs.length ∧ Pv i H, ⟨xs.length, by simp, Nat.zero_le _, h0⟩, ?_⟩
  rintro i m H ⟨rfl, hi, p⟩
  have q := hl i H hi p
  by_cases hlt : i < xs.length
  · refine .inr ⟨⟨xs, xs[i], q, by simp [hlt]⟩, Pv (i + 1), fun H' p' => ⟨xs.length - (i + 1), by omega, rfl, hlt, p'⟩, fun x H' y => ?_⟩
    obtain ⟨e, y⟩ := y
    subst e
    exact hs i x _ (y xs q) p
  · have e : i = xs.length := by omega
    subst e
    exact .inl ⟨⟨xs, q, Nat.le_refl _⟩, hd H p⟩
def blkC (N : List Str) (sc scope : Scope) (own : List (Str × Nat)) : Bool :=
  (match scope.kind with | .function => true | _ => false) && (scope.names.all fun y => decide (scope.names.lookup y.1 = some y.2)) && (own.all fun p => decide (N[p.2]? = some p.1)) &&
    (scope.names.all fun y => match y.2 with
      | .free => (match sc.names.lookup y.1 with | some .cell => true | some .free => true | _ => false)
      | .local => decide (y.1 ∈ own.map (·.1)) || decide (y.1 ∉ N)
      | .cell => decide (y.1 ∈ own.map (·.1)) || decide (y.1 ∉ N)
      | _ => true)
theorem blkOk_by {N : List Str} {sc scope : Scope} {own : List (Str × Nat)} (h : blkC N sc scope own = true) : BlkOk N sc scope own := by
  unfold blkC at h
  simp only [Bool.and_eq_true, List.all_eq_true, decide_eq_true_eq] at h
  obtain ⟨⟨⟨h1, h2⟩, h3⟩, h4⟩ := h
  refine ⟨?_, h2, h3, fun y hy e => ?_, fun y hy e => ?_⟩
  · split at h1
    · assumption
    · cases h1
  · have q := h4 y hy
    simp only [e] at q
    split at q <;> first | exact .inl (by assumption) | exact .inr (by assumption) | cases q
  · have q := h4 y hy
    rcases e with e | e <;> (simp only [e, Bool.or_eq_true, decide_eq_true_eq] at q; exact q)
end L2

namespace L2
open PySem PySem.Spec PyProof.Rows


section
variable {prog : Program} {w : World} {A : Around} {R : Result → Shared → Prop} {s : Shared} {elt t0 i0 t1 i1 : Expr} {ifs0 ifs1 : List Expr} {scope : Scope} {pos : Pos} {it acc : Value} {env : Env}
end

section
variable {X : Cx}
end
end L2

namespace L2
open PySem PySem.Spec PyProof.Rows

/-! ### lists of pairs as tables -/
section
variable {κ : Type} [DecidableEq κ]
def valV (kvs : List (κ × V)) (k : κ) : Option V := (kvs.find? fun kv => decide (kv.1 = k)).map (·.2)
/-- in its place, or at the end -/
def putK (kvs : List (κ × V)) (k : κ) (v : V) : List (κ × V) :=
  if (kvs.any fun kv => decide (kv.1 = k)) = true then kvs.map (fun kv => if kv.1 = k then (kv.1, v) else kv) else kvs ++ [(k, v)]
def dropK (kvs : List (κ × V)) (k : κ) : List (κ × V) := kvs.filter fun kv => decide (kv.1 ≠ k)

theorem valV_pos {p : κ × V} {r : List (κ × V)} {k : κ} (e : p.1 = k) : valV (p :: r) k = some p.2 := by simp [valV, List.find?_cons, e]
theorem valV_neg {p : κ × V} {r : List (κ × V)} {k : κ} (e : ¬ p.1 = k) : valV (p :: r) k = valV r k := by simp [valV, List.find?_cons, e]
theorem valV_any (k : κ) : ∀ kvs : List (κ × V), (kvs.any fun kv => decide (kv.1 = k)) = (valV kvs k).isSome
  | [] => rfl
  | p :: r => by
    rw [List.any_cons]
    by_cases e : p.1 = k
    · simp only [valV_pos e, decide_eq_true e, Bool.true_or, Option.isSome_some]
    · rw [valV_neg e, decide_eq_false e, Bool.false_or]; exact valV_any k r

theorem RelO.isSome_eq {o : Option V} {u : Option Value} (r : RelO o u) : o.isSome = u.isSome := by
  cases o with
  | none => cases u with
    | none => rfl
    | some _ => exact (show False from r).elim
  | some _ => cases u with
    | none => exact (show False from r).elim
    | some _ => rfl
theorem RelO.getD {o : Option V} {u : Option Value} {d : V} {d' : Value} (r : RelO o u) (rd : RelV d d') : RelV (o.getD d) (u.getD d') := by
  cases o with
  | none => cases u with
    | none => exact rd
    | some _ => exact (show False from r).elim
  | some _ => cases u with
    | none => exact (show False from r).elim
    | some _ => exact r

/-- raw tables of the same keys -/
theorem KV.val {kvs : List (κ × V)} {vs : List (κ × Value)} (r : KV kvs vs) (k : κ) : RelO (valV kvs k) (valueAt vs k) := by
  unfold KV at r
  induction r with
  | nil => exact True.intro
  | @cons p q ps qs h t ih =>
    obtain ⟨h1, h2⟩ := h
    by_cases e : p.1 = k
    · have e' : q.1 = k := h1.symm.trans e
      have b : valueAt (q :: qs) k = some q.2 := by simp [valueAt, List.find?_cons, e']
      rw [valV_pos e, b]; exact h2
    · have e' : ¬ q.1 = k := fun z => e (h1.trans z)
      have b : valueAt (q :: qs) k = valueAt qs k := by simp [valueAt, List.find?_cons, e']
      rw [valV_neg e, b]; exact ih
theorem KV.any {kvs : List (κ × V)} {vs : List (κ × Value)} (r : KV kvs vs) (k : κ) : (kvs.any fun kv => decide (kv.1 = k)) = vs.any fun kv => decide (kv.1 = k) := by
  unfold KV at r
  induction r with
  | nil => rfl
  | cons h t ih => rw [List.any_cons, List.any_cons, ih, h.1]
theorem KV.repl {kvs : List (κ × V)} {vs : List (κ × Value)} (r : KV kvs vs) (k : κ) {y : V} {u : Value} (ry : RelV y u) :
    KV (kvs.map fun kv => if kv.1 = k then (kv.1, y) else kv) (vs.map fun kv => if kv.1 = k then (kv.1, u) else kv) := by
  unfold KV at r ⊢
  induction r with
  | nil => exact .nil
  | @cons p q ps qs h t ih =>
    rw [List.map_cons, List.map_cons]
    refine .cons ?_ ih
    obtain ⟨h1, h2⟩ := h
    by_cases e : p.1 = k
    · rw [if_pos e, if_pos (h1.symm.trans e)]; exact ⟨h1, ry⟩
    · rw [if_neg e, if_neg (fun z => e (h1.trans z))]; exact ⟨h1, h2⟩
theorem KV.put {kvs : List (κ × V)} {vs : List (κ × Value)} (r : KV kvs vs) (k : κ) {y : V} {u : Value} (ry : RelV y u) : KV (putK kvs k y) (stored vs k u) := by
  unfold putK stored
  rw [r.any k]
  by_cases e : (vs.any fun kv => decide (kv.1 = k)) = true
  · rw [if_pos e, if_pos e]; exact r.repl k ry
  · rw [if_neg e, if_neg e]; exact Paired.snoc r ⟨rfl, ry⟩
theorem KV.drop {kvs : List (κ × V)} {vs : List (κ × Value)} (r : KV kvs vs) (k : κ) : KV (dropK kvs k) (without vs k) := by
  unfold KV at r ⊢
  unfold dropK without
  induction r with
  | nil => exact .nil
  | @cons p q ps qs h t ih =>
    obtain ⟨h1, h2⟩ := h
    rw [List.filter_cons, List.filter_cons]
    by_cases e : p.1 = k
    · have a : ¬ decide (p.1 ≠ k) = true := by simp [e]
      have b : ¬ decide (q.1 ≠ k) = true := by simp [h1.symm.trans e]
      rw [if_neg a, if_neg b]; exact ih
    · have e' : ¬ q.1 = k := fun z => e (h1.trans z)
      have a : decide (p.1 ≠ k) = true := by simp [e]
      have b : decide (q.1 ≠ k) = true := by simp [e']
      rw [if_pos a, if_pos b]; exact .cons ⟨h1, h2⟩ ih
theorem KV.keys {kvs : List (κ × V)} {vs : List (κ × Value)} (r : KV kvs vs) : kvs.map (·.1) = vs.map (·.1) := by
  unfold KV at r
  induction r with
  | nil => rfl
  | cons h t ih => rw [List.map_cons, List.map_cons, ih, h.1]
theorem KV.length {kvs : List (κ × V)} {vs : List (κ × Value)} (r : KV kvs vs) : kvs.length = vs.length := Paired.length r
end


/-! ### a tracked dict, its keys ints and texts or tuples of these -/

/-- raw entries of a dict with tuple keys -/
abbrev KT (H : Hp) : List (List Key × V) → List (List Key × Addr × Value) → Prop := Paired fun p q => p.1 = q.1 ∧ H q.2.1 = some (.tup (p.1.map kV)) ∧ RelV p.2 q.2.2
theorem KT.val {H : Hp} {kvs : List (List Key × V)} {xs : List (List Key × Addr × Value)} (r : KT H kvs xs) (k : List Key) : RelO (valV kvs k) ((atKey xs k).map (·.2)) := by
  induction r with
  | nil => exact True.intro
  | @cons p q ps qs h t ih =>
    obtain ⟨h1, _, h2⟩ := h
    by_cases e : p.1 = k
    · have e' : q.1 = k := h1.symm.trans e
      have b : atKey (q :: qs) k = some q.2 := by simp [atKey, List.find?_cons, e']
      rw [valV_pos e, b]; exact h2
    · have e' : ¬ q.1 = k := fun z => e (h1.trans z)
      have b : atKey (q :: qs) k = atKey qs k := by simp [atKey, List.find?_cons, e']
      rw [valV_neg e, b]; exact ih
theorem KT.repl {H : Hp} {kvs : List (List Key × V)} {xs : List (List Key × Addr × Value)} (r : KT H kvs xs) (k : List Key) {y : V} {u : Value} (ry : RelV y u) :
    KT H (kvs.map fun kv => if kv.1 = k then (kv.1, y) else kv) (xs.map (putAt k u)) := by
  induction r with
  | nil => exact .nil
  | @cons p q ps qs h t ih =>
    rw [List.map_cons, List.map_cons]
    refine .cons ?_ ih
    obtain ⟨h1, h2, h3⟩ := h
    unfold putAt
    by_cases e : p.1 = k
    · rw [if_pos e, if_pos (h1.symm.trans e)]; exact ⟨h1, h2, ry⟩
    · rw [if_neg e, if_neg (fun z => e (h1.trans z))]; exact ⟨h1, h2, h3⟩
theorem KT.put {H : Hp} {kvs : List (List Key × V)} {xs : List (List Key × Addr × Value)} (r : KT H kvs xs) (k : List Key) {b : Addr} {y : V} {u : Value} (hb : H b = some (.tup (k.map kV))) (ry : RelV y u) :
    KT H (putK kvs k y) (storedH xs k b u) := by
  have e : (kvs.any fun kv => decide (kv.1 = k)) = (atKey xs k).isSome := by
    rw [valV_any, (r.val k).isSome_eq, Option.isSome_map]
  unfold putK storedH
  rw [e]
  by_cases q : (atKey xs k).isSome = true
  · rw [if_pos q, if_pos q]; exact r.repl k ry
  · rw [if_neg q, if_neg q]; exact Paired.snoc r ⟨rfl, hb, ry⟩
theorem KT.keeps {H H' : Hp} {kvs : List (List Key × V)} {xs : List (List Key × Addr × Value)} (r : KT H kvs xs) (ht : ∀ b ys, H b = some (.tup ys) → H' b = some (.tup ys)) : KT H' kvs xs :=
  Paired.mapP r fun _ _ z => ⟨z.1, ht _ _ z.2.1, z.2.2⟩

section
variable {P : Program} {w : World} {H : Hp} {h : Heap} {a : Addr}
end

/-- what the dict at a holds at the key y -/
def DGet (H : Hp) (a : Addr) (y : V) (r : Option V) : Prop :=
  (∃ kvs k, Rd H a (.dK kvs) ∧ y = kV k ∧ r = valV kvs k) ∨ ∃ kvs k b, Rd H a (.dT kvs) ∧ y = .ref b ∧ H b = some (.tup (k.map kV)) ∧ r = valV kvs k
/-- the heap behind a[y] = v -/
def DPut (H : Hp) (a : Addr) (y v : V) (H' : Hp) : Prop :=
  (∃ kvs k, H a = some (.dK kvs) ∧ y = kV k ∧ kvs.length < sizeLine ∧ H' = upd H a (.dK (putK kvs k v))) ∨
  ∃ kvs k b, H a = some (.dT kvs) ∧ y = .ref b ∧ H b = some (.tup (k.map kV)) ∧ kvs.length < sizeLine ∧ H' = upd H a (.dT (putK kvs k v))
theorem DGet.k {H : Hp} {a : Addr} {kvs : List (Key × V)} {k : Key} (e : H a = some (.dK kvs)) : DGet H a (kV k) (valV kvs k) := .inl ⟨kvs, k, .inl e, rfl, rfl⟩
theorem DGet.t {H : Hp} {a b : Addr} {kvs : List (List Key × V)} {k : List Key} (e : H a = some (.dT kvs)) (eb : H b = some (.tup (k.map kV))) : DGet H a (.ref b) (valV kvs k) := .inr ⟨kvs, k, b, .inl e, rfl, eb, rfl⟩
theorem DPut.k {H : Hp} {a : Addr} {kvs : List (Key × V)} {k : Key} {v : V} (e : H a = some (.dK kvs)) (hl : kvs.length < sizeLine) : DPut H a (kV k) v (upd H a (.dK (putK kvs k v))) := .inl ⟨kvs, k, e, rfl, hl, rfl⟩
theorem DPut.t {H : Hp} {a b : Addr} {kvs : List (List Key × V)} {k : List Key} {v : V} (e : H a = some (.dT kvs)) (eb : H b = some (.tup (k.map kV))) (hl : kvs.length < sizeLine) :
    DPut H a (.ref b) v (upd H a (.dT (putK kvs k v))) := .inr ⟨kvs, k, b, e, rfl, eb, hl, rfl⟩


section
variable {X : Cx} {pins : List (Addr × Obj)} {σ : St} {H : Hp} {s : Shared} {a : Addr} {y v : V} {u r : Value} {o : Option V} {A : Around} {E : Value → Shared → Prop}

theorem Inv.big (I : Inv X pins σ H s) : sysModules < s.heap.objs.size := by
  have h : mainGlobals < s.heap.objs.size := (I.mod.glob.keeps I.bk).lt
  exact Nat.lt_trans (by decide) h

end

section
variable {X : Cx} {pins : List (Addr × Obj)} {σ : St} {H : Hp} {s : Shared} {a : Addr} {kvs : List (Key × V)} {k : Key} {u : Value} {A : Around} {E : Value → Shared → Prop}
end


/-! ### readings and rules -/



section
variable {X : Cx} {o i e value : Expr} {pos pos' tpos : Pos} {td ty tv : TE}
end


/-! ### displays -/
section
variable {X : Cx} {pos : Pos}
end




/-! ### methods -/


section
variable {X : Cx} {pins : List (Addr × Obj)} {σ : St} {H : Hp} {s : Shared} {a : Addr} {y d : V} {u r : Value} {o : Option V} {A : Around} {E : Value → Shared → Prop}
end

section
variable {X : Cx} {o e f : Expr} {apos cpos : Pos} {td ty tx : TE}
end

/-! ### dict(d): a copy -/
section
variable {X : Cx} {pins : List (Addr × Obj)} {σ : St} {H : Hp} {s : Shared} {a : Addr} {kvs : List (Key × V)} {A : Around} {E : Value → Shared → Prop}
end


section
variable {X : Cx} {pins : List (Addr × Obj)} {σ : St} {H : Hp} {s : Shared} {a : Addr} {y : V} {u : Value} {A : Around} {E : Value → Shared → Prop}
end
end L2

namespace L2
open PySem PySem.Spec PyProof.Rows


section
variable {prog : Program} {w : World} {A : Around} {E : Value → Shared → Prop}


end

section
variable {X : Cx}
theorem refs_at : ∀ {ps : List Addr} {us : List Value}, Vals (ps.map V.ref) us → us = ps.map Value.ref
  | [], us, r => by
    rw [List.map_nil] at r
    cases r
    rfl
  | p :: ps, us, r => by
    rw [List.map_cons] at r
    cases r with
    | cons h t =>
      cases h
      rw [List.map_cons, ← refs_at t]
end
end L2

namespace L2
open PySem PySem.Spec PyProof.Rows


section
variable {X : Cx} {pins : List (Addr × Obj)} {σ : St} {H : Hp} {s : Shared} {h' : Heap}

/-! ### locking a thing while a statement runs -/
end
section
variable {X : Cx}

/-! ### one iterator just laid -/
end

/-! ### range with a step -/
section
variable {X : Cx} {tg : Expr}
end

/-! ### reversed(list) -/
section
variable {X : Cx} {tg : Expr}
end

/-! ### a str -/

/-! ### a dict's keys: any dict's entries -/
section
variable {prog : Program} {w : World} {A : Around} {E : Value → Shared → Prop} {s : Shared}
end

/-! ### a locked dict -/
section
variable {X : Cx} {pins : List (Addr × Obj)} {σ : St} {H : Hp} {s : Shared} {d : Addr} {o : Obj}
end

section
variable {P : Program} {w : World} {K : PySem.W.Frag} {tg : Expr} {d : Addr} {o : Obj} {es : Array DictEntry} {ep : Nat}
end

/-! ### for k in d, d.keys(), d.values(), d.items() -/
section
variable {X : Cx} {tg e : Expr} {td : TE} {apos cpos : Pos}
end

/-! ### enumerate(list) -/
/-! ### zip(list, list) -/
end L2

section 
namespace Bits
open PySem PyProof.Rows








end Bits
end 

section 
namespace TL
open PySem PySem.Builtin PySem.Builtin.Str PySem.StrLaws

abbrev tl (x : Str) : List Nat := x.cps.toList

/-! ### the list functions -/
/-- S stands at the head of l -/
def pre (S l : List Nat) : Bool := l.take S.length == S
/-- l cut at each S from the left; k signs are still to be passed over -/
def spl (S : List Nat) : Nat → List Nat → List Nat → List (List Nat)
  | _, acc, [] => [acc]
  | 0, acc, c :: r => if pre S (c :: r) = true then acc :: spl S (S.length - 1) [] r else spl S 0 (acc ++ [c]) r
  | k + 1, acc, _ :: r => spl S k acc r
/-- what stands before the first S, and behind it -/
def par (S : List Nat) : List Nat → List Nat → Option (List Nat × List Nat)
  | _, [] => none
  | acc, c :: r => if pre S (c :: r) = true then some (acc, (c :: r).drop S.length) else par S (acc ++ [c]) r




/-! ### the model's split and partition are these -/




/-! ### computing spl and par -/


/-! ### digits -/

/-! ### words: x.split() -/
end TL
end 

namespace L2
open PySem PySem.Spec PyProof.Rows




section
variable {X : Cx} {pins : List (Addr × Obj)} {σ : St} {H : Hp} {s : Shared} {Q : VK}
end

section
variable {X : Cx}





/-! ### of a text alone -/

/-! ### of a text and a text -/

end

section
variable {X : Cx} {o e : Expr} {to te : TE}

end
end L2

namespace L2
open PySem PySem.Spec PyProof.Rows

section
variable {X : Cx}
end

/-! ### slices of a text -/
theorem IsPart.raw {v : Value} {o : Option Int} (p : IsPart v o) : ∃ l : Option (Int × Tok), v = partValue l ∧ l.map (·.1) = o := by
  cases p with
  | none => exact ⟨none, rfl, rfl⟩
  | int i t => exact ⟨some (i, t), rfl, rfl⟩


/-- z[lo:hi] -/
def cutS (z : Str) (lo hi : Option Int) : Str :=
  ⟨((z.cps.toList.drop (HT.sIx z.length 0 lo)).take (HT.sIx z.length z.length hi - HT.sIx z.length 0 lo)).toArray⟩
end L2

namespace Att
open PySem PySem.W PySem.Calls PyProof.Rows

/-! ### the script -/
theorem ints_of_wellAll {P : Params} {h : Heap} : ∀ (ns : List Int) (vs : List Value), WellAll P h vs (ns.map WData.int) → IntsAre vs ns := by
  intro ns
  induction ns with
  | nil =>
    intro vs w
    rw [List.map_nil] at w
    cases w
    exact .nil
  | cons n ns ih =>
    intro vs w
    rw [List.map_cons] at w
    cases w with
    | cons a b =>
      cases a
      exact .cons _ _ (ih _ b)

theorem script_of {l : OpenLaw} {n : Nat} (hn : l.most = some n) {P : Params} {h : Heap} {args : List WData} {vals : List Value}
    (hpre : l.row.toRowW.claim.pre args = true) (hwl : WellAll P h vals args) :
    ∃ a vs ns, vals = [Value.ref a] ∧ args = [WData.list (ns.map WData.int)] ∧ h.get? a = some { cls := .type "list", data := .seq vs.toArray } ∧ IntsAre vs ns ∧ ns.length ≤ n := by
  have hsh : WShape.hasAll [] args [.list .int] = true := (pre_splitW hpre).1
  have hc : l.pre.holds [] { args := args } = true := (pre_splitW hpre).2
  obtain ⟨d, r, rfl, h1, h2⟩ := hasAllW_cons hsh
  obtain rfl := hasAllW_nil h2
  obtain ⟨xs, rfl, h3⟩ := hasW_list h1
  obtain ⟨ns, rfl⟩ := items_int h3
  have hlen : ns.length ≤ n := by
    unfold OpenLaw.pre at hc
    have h4 : (WTm.not (.lt (.lit (.int (n : Int))) (.len (.arg 0)))).holds [] { args := [.list (ns.map .int)] } = true := by
      have h4 := (holds_andW hc).1
      rw [hn] at h4
      exact h4
    have h5 := condW_of h4 (w_not (w_lt w_lit (w_len_list (w_arg rfl))))
    rw [List.length_map] at h5
    refine Nat.le_of_not_lt fun q => ?_
    have q' : (n : Int) < ((ns.length : Nat) : Int) := by omega
    first
      | (rw [decide_eq_true q'] at h5; exact absurd h5 (by decide))
      | (simp at h5; omega)
  cases hwl with
  | cons w1 w2 =>
    cases w2
    cases w1 with
    | list ho hall => exact ⟨_, _, ns, rfl, rfl, ho, ints_of_wellAll ns _ hall, hlen⟩

theorem post_true (l : OpenLaw) (args : List WData) : l.row.toRowW.claim.post args (.bool true) args = true :=
  postW_of (r := l.row.toRowW) (X := (true == true))
    (show WShape.has [] (.bool true) .bool = true by first | rfl | decide | simp [WShape.has, WShape.arms, WShape.armsAll])
    (show (WTm.eq .res (.lit (.bool true))).value [] { args := args, res := some (.bool true), after := args } = some (.bool (true == true)) from w_eq_bool (w_res rfl) w_lit) rfl

/-! ### the attachment: holds_open's last premise (the goal 'hc' behind k_head) from a wpAny of the law's body -/

/-- the same from a codeAny of the CALL (for a layer whose function contracts speak of calls) -/
theorem attach_call {l : OpenLaw} {n : Nat} {q : Program} {loose : List Str} {XP : (Str → Option Value) → Heap → Prop} {YP : World → Heap → Prop} {d : DefRec}
    (hn : l.most = some n) (hdf : d.params.defaults = [])
    (call : ∀ (w : World) (s₀ s₁ : Shared) (mg mb : Str → Option Value) (fa : Addr) (o : Obj) (pm cd doc : Value) (a : Addr) (vs : List Value) (ns : List Int),
      Ground q loose [] XP w s₀ mg mb s₁.heap → YP w s₁.heap →
      s₁.heap.get? fa = some o → o.data = .func (docDef d.name d.params d.body d.scope pm cd doc) → s₁.heap.CodeRec cd d.name → mg d.name = some (.ref fa) →
      s₁.heap.get? a = some { cls := .type "list", data := .seq vs.toArray } → IntsAre vs ns → ns.length ≤ n → s₁.gens = #[] →
      codeAny (model l.prog w) callerA (.call (.ref fa) ⟨[.ref a], []⟩) (fun r s' => r = .ok (.ret (.bool true)) ∧ OldK s₁.heap s'.heap ∧ s'.os = s₁.os ∧ AllBare s'.gens) s₁) :
    WalkO q loose XP YP l.row.toRowW d [] (fun f vs => PySem.call f vs) := by
  intro w s₀ s₁ mg mb G Y fa o pm cd doc dV kV ho hd hcd hD hmg hg args vals as hpre hlay hrd hwl hlo
  obtain rfl : dV = .none := Dflts.none hD hdf
  obtain rfl : kV = .none := Dflts.noKw hD
  obtain ⟨a, vs, ns, rfl, rfl, hobj, hints, hlen⟩ := script_of hn hpre hwl
  refine enter_call (codeAny_mono (call w s₀ s₁ mg mb fa o pm cd doc a vs ns G Y ho (fd_plain hd) hcd hmg hobj hints hlen hg) fun r s' hq => ?_)
  obtain ⟨rfl, h2, h3, h4⟩ := hq
  exact ⟨.inl ⟨.bool true, .bool true, [], rfl, fun _ => rfl, .bool true, post_true l _, fun _ => ⟨List.Pairwise.nil, fun _ hm => (nomatch hm)⟩⟩, h2, h3, h4⟩


/-! ### rules over ANY heap (no ledger) from facts about the written part K: the library's own take a ledger (News) for what they write -/
section
variable {prog : Program} {w : World} {A : Around} {E : Value → Shared → Prop} {s : Shared} {K : Frag}





/-! the whole heap as the ledger: makes every rule that writes through a ledger a rule over any heap -/
def ledger (h : Heap) (L d : Addr) : List (Addr × Obj) := (List.range h.objs.size).filterMap fun a => if a = L ∨ a = d then none else (h.get? a).map fun o => (a, o)

end
end Att

namespace L2
open PySem PySem.Spec PyProof.Rows

theorem vals_ints : ∀ {vs : List Value} {ns : List Int}, IntsAre vs ns → Vals (ns.map V.int) vs
  | _, _, .nil => .nil
  | _, _, .cons n t h => .cons ⟨t, rfl⟩ (vals_ints h)

/-- nothing is tracked but the script, known to the object (or it is an object of the module) -/
def Only (H : Hp) : Prop := ∀ b, H b = none ∨ ∃ o xs, H b = some (.frz o (.lst xs))

/-- THE HEAD: the law's promise, at the heap behind the top. F, the promise of the law's def, may use that base is part of the heap (so K.In base, base.Ns mainGlobals mg stand in Mod) -/
theorem law_call {P : Program} {w : World} {K : PySem.W.Frag} {mg mb : Str → Option Value} {CX : CXT} {k : Nat} {fa a : Addr} {fd : FuncData} {x : Str} {sp : Sp} {s₁ : Shared} {vs : List Value} {ns : List Int}
    (KX : K.In s₁.heap) (hns : s₁.heap.Ns mainGlobals mg) (hb : s₁.heap.Ns builtinsNs mb) (hbb : ∀ x : Str, x ≠ "__name__" → mb x = bootBuiltins x) (hlim : s₁.heap.NoLimit) (hg : s₁.gens = #[])
    (ha : s₁.heap.get? a = some { cls := .type "list", data := .seq vs.toArray }) (hi : IntsAre vs ns) (hl : ns.length ≤ sizeLine) (hr : Room k callerA)
    (F : ∀ base : Heap, K.In base → base.Ns mainGlobals mg → FnOk P w K mg base CX k fa fd [x] sp) (hbind : ∀ (s : Shared) (u : Value), BindsTo s fd ⟨[u], []⟩ [(x, u)])
    (hsp : ∀ H : Hp, Only H → SqL K H a (ns.map V.int) → sp [.ref a] H (fun v _ => v = .bl true) fun _ _ _ => False)
    (hCX : ∀ H e s', CX [] H s₁ (fun _ _ _ => False) e s' → False) :
    codeAny (model P w) callerA (.call (.ref fa) ⟨[.ref a], []⟩) (fun r s' => r = .ok (.ret (.bool true)) ∧ OldK s₁.heap s'.heap ∧ s'.os = s₁.os ∧ AllBare s'.gens) s₁ := by
  have rv := vals_ints hi
  have lenV := hi.length
  -- from an abstract heap in which nothing but the script may be tracked
  have core : ∀ H : Hp, Only H → SqL K H a (ns.map V.int) → HOk P w H s₁.heap → (∀ b, H b ≠ none → b = a) → (H a ≠ none → K.lookup a = none) →
      codeAny (model P w) callerA (.call (.ref fa) ⟨[.ref a], []⟩) (fun r s' => r = .ok (.ret (.bool true)) ∧ OldK s₁.heap s'.heap ∧ s'.os = s₁.os ∧ AllBare s'.gens) s₁ := by
    intro H hO hS hok hA hK
    have base_of : ∀ {b : Addr} {o : Obj}, s₁.heap.get? b = some o → H b = none → (hidT s₁.heap H).get? b = some o := fun e n => hidT_get e n
    have noA : ∀ {b : Addr} {o : Obj} {es : Array DictEntry} {ep : Nat}, s₁.heap.get? b = some o → o.data = .dict es ep → H b = none := fun {b o es ep} e d => by
      cases q : H b with
      | none => rfl
      | some u =>
        have e' : b = a := hA b (by rw [q]; simp)
        subst e'
        rw [ha] at e; cases e
        have d' : Data.seq vs.toArray _ = Data.dict es ep := d
        cases d'
    have nsK : ∀ {b : Addr} {m : Str → Option Value}, s₁.heap.Ns b m → (hidT s₁.heap H).Ns b m := fun {b m} ⟨o, es, ep, e, d, r⟩ => ⟨o, es, ep, base_of e (noA e d), d, r⟩
    have hKb : K.In (hidT s₁.heap H) := fun b o e => base_of (KX b o e) (by
      cases q : H b with
      | none => rfl
      | some u =>
        have e' : b = a := hA b (by rw [q]; simp)
        subst e'
        rw [hK (by rw [q]; simp)] at e; cases e)
    have hM : Mod K mg (hidT s₁.heap H) := ⟨hKb, nsK hns, ⟨mb, nsK hb, hbb⟩, let ⟨mc, h1, h2⟩ := hlim; ⟨mc, nsK h1, h2⟩⟩
    have e0 : Env0 P w K mg (hidT s₁.heap H) callerA [] s₁ H := ⟨rfl, hM, fun b o e => of_hidT e, Nat.le_of_eq (hidT_size _ _), trivial, fun b hb => absurd (show b ∈ ([] : List Addr) from hb) (by simp), hok, .of_eq hg⟩
    refine codeAny_mono ((F _ hKb (nsK hns)).run callerA [] s₁ H ⟨[.ref a], []⟩ [.ref a] [.ref a] _ _ hr e0 (hbind s₁ (.ref a)) (.cons rfl .nil) (hsp H hO hS)) fun r s' h => ?_
    cases r with
    | error e => exact (hCX H e s' h).elim
    | ok fl =>
      cases fl with
      | next => exact False.elim h
      | brk => exact False.elim h
      | cont => exact False.elim h
      | ret u =>
        obtain ⟨v, H', os, bare, un, hok', r', q⟩ := h
        have q' : v = .bl true := q
        subst q'
        obtain rfl : u = Value.bool true := r'
        refine ⟨rfl, OldK.of_keep fun b o e => ?_, os, bare⟩
        cases q : H b with
        | none => exact un.keep b o e q (by intro z; exact absurd (show b ∈ ([] : List Addr) from z) (by simp)) (by simp)
        | some u =>
          rcases hO b with z | ⟨ob, xs, z⟩
          · rw [q] at z; cases z
          · have z2 := un.frzs b ob _ z
            obtain ⟨e1, _⟩ := hok b _ z
            obtain ⟨e2, _⟩ := hok' b _ z2
            rw [e] at e1; cases e1
            exact e2
  cases hk : K.lookup a with
  | some o =>
    -- the script is one of the module's own objects
    have e := KX a o hk
    rw [ha] at e
    cases e
    refine core (fun _ => none) (fun _ => .inl rfl) (.inr ⟨_, vs.toArray, _, hk, rfl, rfl, rfl, by rw [List.size_toArray, lenV]; exact hl, by simpa using rv⟩) (fun b u z => by have z' : (none : Option HO) = some u := z; cases z') (fun b z => absurd rfl z) fun z => absurd rfl z
  | none =>
    refine core (fun b => if b = a then some (.frz { cls := .type "list", data := .seq vs.toArray } (.lst (ns.map V.int))) else none) (fun b => ?_) (.inl (.inr ⟨{ cls := .type "list", data := .seq vs.toArray }, if_pos rfl⟩)) (fun b u z => ?_) (fun b z => ?_) fun _ => hk
    · by_cases hb : b = a
      · exact .inr ⟨_, _, if_pos hb⟩
      · exact .inl (if_neg hb)
    · by_cases hb : b = a
      · have z' := (if_pos hb).symm.trans z
        cases z'
        subst hb
        exact ⟨ha, by rw [List.length_map]; exact hl, vs, _, rv, ha⟩
      · have z' := (if_neg hb).symm.trans z
        cases z'
    · by_cases hb : b = a
      · exact hb
      · exact absurd (if_neg hb) z
end L2

namespace L2
open PySem PySem.Spec PyProof.Rows

abbrev KOf {K : PySem.W.Frag} {h : Heap} (_ : K.In h) : PySem.W.Frag := K

/-- the goal that k_head leaves (case hc), from the law's promise. F gives the function object fd (K's own) once, then the promise over every base -/
theorem walk_of {l : PySem.W.OpenLaw} {n k : Nat} {q : Program} {loose : List Str} {XP : (Str → Option Value) → Heap → Prop} {YP : World → Heap → Prop} {d : DefRec} {K : Params → PySem.W.Frag} {CX : World → CXT} {sp : World → Sp} {x : Str}
    (hn : l.most = some n) (hn2 : n ≤ sizeLine) (hdf : d.params.defaults = []) (hr : Room k callerA)
    (hY : ∀ (w : World) (h : Heap), YP w h → (K w.params).In h)
    (F : ∀ (w : World) (mg : Str → Option Value) (fa : Addr) (h : Heap), (K w.params).In h → h.Ns mainGlobals mg → mg d.name = some (.ref fa) →
      ∃ fd : FuncData, (∀ (s : Shared) (u : Value), BindsTo s fd ⟨[u], []⟩ [(x, u)]) ∧
        ∀ base : Heap, (K w.params).In base → base.Ns mainGlobals mg → FnOk l.prog w (K w.params) mg base (CX w) k fa fd [x] (sp w))
    (hsp : ∀ (w : World) (H : Hp) (a : Addr) (ns : List Int), ns.length ≤ n → Only H → SqL (K w.params) H a (ns.map V.int) → sp w [.ref a] H (fun v _ => v = .bl true) fun _ _ _ => False)
    (hCX : ∀ (w : World) (H : Hp) (s : Shared) (e : Value) (s' : Shared), CX w [] H s (fun _ _ _ => False) e s' → False) :
    PySem.W.WalkO q loose XP YP l.row.toRowW d [] (fun f vs => PySem.call f vs) := by
  refine Att.attach_call hn hdf fun w s₀ s₁ mg mb fa o pm cd doc a vs ns G Y ho hd hcd hmg hobj hints hlen hg => ?_
  have KX := hY w _ Y
  obtain ⟨fd, hb, hF⟩ := F w mg fa _ KX G.T.g hmg
  exact law_call KX G.T.g G.T.b G.T.builtins G.T.nolimit hg hobj hints (Nat.le_trans hlen hn2) hr hF hb (fun H hO hS => hsp w H a ns hlen hO hS) fun H e s' => hCX w H s₁ e s'
end L2

/- THE LAST THEOREM (shape; LID, My.* are yours):
   My.Adr: a structure of the addresses that your layer names (classes, functions); My.Txt K t: a structure (Prop) of the equations over K;
   My.txt_mk : {K} {implicit addresses ..} (e1 : nsIn K mainGlobals "law" = some (some (.ref f))) (e2 : K.lookup f = some ⟨oc, od, .func (fnOf "law" "law" params body scope dV kV doc pm an cdv ct), sl⟩) (e3 : codeIn K cdv "law" = true) .. : ∃ t, My.Txt K t

set_option maxRecDepth 100000 in
set_option maxHeartbeats 0 in
theorem PySem.Challenge.cw_LID_holds : PySem.Challenge.rw_LID.Holds := by
  w_on; o_law; k_head; (case hw => w_witness2)
  k_fill
  refine L2.walk_of (l := PySem.Challenge.rw_LID) (n := 63) (k := 40) (x := "script") (CX := fun w => ..) (sp := fun _ => My.sp_law) rfl (by decide) rfl ⟨rfl, by decide, by decide⟩ (fun w h Y => PySem.W.kIn_of Y) ?F ?S ?C
  case F =>
    intro w mg fa h KX G hmg
    have T : ∃ t, My.Txt (L2.KOf KX) t := by
      dsimp only [L2.KOf]                          -- K must stand as «<heap const> w.params» for k_is
      refine' My.txt_mk ?e1 ?e2 ?e3 ..
      (case e1 => PySem.W.k_is)                    -- in the order: a name -> its address -> its object -> its parts
      (case e2 => PySem.W.k_is)
      ..
    obtain ⟨t, T⟩ := T
    have e0 := hmg.symm.trans (PySem.W.mg_of KX G T.law)
    cases e0                                       -- fa is the law's own address
    exact ⟨_, fun s u => .of_eq rfl, fun base kb nb => My.law_fn T kb nb⟩     -- if «.of_eq rfl» comes too early: refine' ⟨_, ?b, fun base kb nb => My.law_fn T kb nb⟩; exact fun s u => .of_eq rfl
  case S => exact fun w H a ns hl hO hS => ..
  case C => exact ..
(the tactic k_is has no namespace: write k_is) -/

/-! SHORT WORDS over the layer: a def of the text, its body, what a loop and a test want. -/
namespace L2
open PySem PySem.Spec PyProof.Rows

/-! ### the text by places -/
def defArgs (s : Stmt) : Arguments := match s with
  | .FunctionDef _ a _ _ _ _ _ _ _ _ => a
  | _ => { posonlyargs := [], args := [], vararg := none, kwonlyargs := [], kw_defaults := [], kwarg := none, defaults := [] }
def defBody (s : Stmt) : List Stmt := match s with
  | .FunctionDef _ _ b _ _ _ _ _ _ _ => b
  | _ => []
def defScope (s : Stmt) : Scope := match s with
  | .FunctionDef _ _ _ _ _ _ sc _ _ _ => sc
  | _ => { kind := .function, names := [], isGenerator := false, isCoroutine := false }

/-! ### no exception leaves a def -/
abbrev CX0 : CXT := fun _ _ _ _ _ _ => False
abbrev E0 : XK := fun _ _ _ => False
theorem pass0 {X : Cx} : Passes CX0 X E0 := fun _ _ _ _ _ _ _ h => h.elim

/-! ### a def (or method) of the text as it stands behind the top -/
structure Fun (K : PySem.W.Frag) (x qual : Str) (st : Stmt) (f : Addr) (fd : FuncData) : Prop where
  ex : ∃ (oc : Value) (od : Option Addr) (kV doc pm : Value) (an : Option Addr) (cdv ct : Value) (osl : Array (Option Value)),
    fd = PySem.W.fnOf x qual (defArgs st) (defBody st) (defScope st) .none kV doc pm an cdv ct ∧ K.lookup f = some ⟨oc, od, .func fd, osl⟩ ∧ PySem.W.codeIn K cdv qual = true
  kp : PySem.W.keepIn K (.ref f) = true
section
variable {P : Program} {w : World} {K : PySem.W.Frag} {mg : Str → Option Value} {base : Heap}
/-- THE RULE for a def: its body as a term of rules, and the reading of that term -/
theorem Fun.ok {x qual : Str} {st : Stmt} {f : Addr} {fd : FuncData} {N ps : List Str} {k : Nat} {sp : Sp} (F : Fun K x qual st f fd) (S : FnScope N ps (defScope st)) (len : ∀ vs H Q E, sp vs H Q E → vs.length = ps.length)
    (hbody : ∀ (cdv : Value) (A : Around) (outer : List Env) (s : Shared) (H : Hp) (vs : List V) (Q : VK) (E : XK), Room k (A.deeper (envOfC qual (defScope st) s.heap.objs.size f cdv)) → sp vs H Q E →
      ∃ t, PSs (cxOf CX0 P w K mg base N qual (defScope st) f cdv A outer s H E).nox (defBody st) t ∧ t { nx := fun _ H' => Q .non H', rt := Q } (start N vs) H) : FnOk P w K mg base CX0 (k + 1) f fd ps sp := by
  obtain ⟨oc, od, kV, doc, pm, an, cdv, ct, osl, rfl, lk, hcd⟩ := F.ex
  refine fn_of lk hcd S len fun A outer s H vs Q E hr hsp => ?_
  obtain ⟨t, h, q⟩ := hbody cdv A outer s H vs Q E hr hsp
  exact ⟨t, h.nox, q⟩
/-- how its arguments bind (no defaults): h is «fun _ _ _ _ _ _ us hl => match us, hl with | [_, _], _ => rfl», one _ a parameter -/
theorem Fun.binds {x qual : Str} {st : Stmt} {f : Addr} {fd : FuncData} {ps : List Str} (F : Fun K x qual st f fd)
    (h : ∀ (kV doc pm : Value) (an : Option Addr) (cdv ct : Value) (us : List Value), us.length = ps.length → bindArgs (PySem.W.fnOf x qual (defArgs st) (defBody st) (defScope st) .none kV doc pm an cdv ct) ⟨us, []⟩ = pure (ps.zip us)) : Binds K fd ps [] := by
  obtain ⟨oc, od, kV, doc, pm, an, cdv, ct, osl, rfl, lk, hcd⟩ := F.ex
  exact .all (h kV doc pm an cdv ct)
theorem fun_mk {x qual : Str} {st : Stmt} {f : Addr} {oc : Value} {od an : Option Addr} {osl : Array (Option Value)} {kV doc pm cdv ct : Value} (l : K.lookup f = some ⟨oc, od, .func (PySem.W.fnOf x qual (defArgs st) (defBody st) (defScope st) .none kV doc pm an cdv ct), osl⟩)
    (c : PySem.W.codeIn K cdv qual = true) (k : PySem.W.keepIn K (.ref f) = true) : Fun K x qual st f (PySem.W.fnOf x qual (defArgs st) (defBody st) (defScope st) .none kV doc pm an cdv ct) := ⟨⟨oc, od, kV, doc, pm, an, cdv, ct, osl, rfl, l, c⟩, k⟩
end

/-! ### expressions in short: the name that stands in the i-th slot -/
section
variable {X : Cx}
theorem pv (i : Nat) {x : Str} {pos : Pos} (hN : X.N[i]? = some x := by rfl) (hv : Vis X.env.scope x := by first | exact Or.inl rfl | exact Or.inr (Or.inl rfl) | exact Or.inr (Or.inr rfl)) (hd : (x == ("__debug__" : Str)) = false := by decide)
    (hcd : (x == ("__classdict__" : Str)) = false := by decide) : PE X (.Name x pos) (tVar i) := pe_var hN hv hd hcd
end

/-! ### tests -/
theorem iteF {A B : Prop} (h : B) : if false = true then A else B := by
  rw [if_neg Bool.false_ne_true]
  exact h
theorem iteT {A B : Prop} (h : A) : if true = true then A else B := by
  rw [if_pos rfl]
  exact h
theorem ite2 {c A B : Prop} [Decidable c] (h1 : c → A) (h2 : ¬ c → B) : if c then A else B := by
  by_cases h : c
  · rw [if_pos h]
    exact h1 h
  · rw [if_neg h]
    exact h2 h

/-! ### heaps -/
/-- all that was tracked is as it was -/
def Same (H H' : Hp) : Prop := ∀ b o, H b = some o → H' b = some o
theorem Same.refl (H : Hp) : Same H H := fun _ _ h => h
theorem Same.trans {H H1 H2 : Hp} (a : Same H H1) (b : Same H1 H2) : Same H H2 := fun c o h => b c o (a c o h)
theorem Same.free {H H' : Hp} (e : Same H H') {l : Addr} (h : H' l = Option.none) : H l = Option.none := by
  cases q : H l with
  | none => rfl
  | some o =>
    rw [e l o q] at h
    cases h
theorem Same.seq {K : PySem.W.Frag} {H H' : Hp} {a : Addr} {xs : List V} (e : Same H H') (h : SqL K H a xs) : SqL K H' a xs := by
  rcases h with (h | ⟨o, h⟩) | h
  · exact .inl (.inl (e _ _ h))
  · exact .inl (.inr ⟨o, e _ _ h⟩)
  · exact .inr h

/-! ### a dict's pairs: keys that differ -/
section
variable {κ : Type} [DecidableEq κ]
end
/-! ### lists -/
theorem at_of {xs : List V} {z : Int} {j : Nat} {v : V} (e : z = (j : Int)) (h : xs[j]? = some v) : atI xs z = some v := by
  rw [e]
  exact atI_nat h
/-- a new instance and its __init__ leave all that was tracked as it was -/
theorem Same.made {H H1 : Hp} {x dx C : Addr} (nx : H x = Option.none) (nd : H dx = Option.none) (k : ∀ b o, (upd (upd H dx (.own x)) x (.ins C dx [])) b = some o → b ≠ x → H1 b = some o) : Same H H1 := fun b o e =>
  k b o (by rw [upd_ne (ne_of_none e nx), upd_ne (ne_of_none e nd)]; exact e) (ne_of_none e nx)
end L2

section
set_option Elab.async false
set_option linter.all false
set_option maxRecDepth 100000
set_option maxHeartbeats 2000000
namespace L2
open PySem PySem.Spec PyProof.Rows
open PySem.W (WData Codec OpenSpec Well WellAll ReadsW ReadsAllW)
/-! ### an answer as data -/
mutual
/-- x stands for the datum d, lists and tuples all the way -/
inductive Dw (K : PySem.W.Frag) (H : Hp) : V → WData → Prop
  | non : Dw K H .non .none
  | bl (b : Bool) : Dw K H (.bl b) (.bool b)
  | int (i : Int) : Dw K H (.int i) (.int i)
  | str (x : Str) : Dw K H (.str x) (.str x)
  | byt (b : Array UInt8) : Dw K H (.byt b) (.bytes b.toList)
  | lst {a : Addr} {xs : List V} {ds : List WData} : SqL K H a xs → DwAll K H xs ds → Dw K H (.ref a) (.list ds)
  | tup {a : Addr} {xs : List V} {ds : List WData} : SqT K H a xs → DwAll K H xs ds → Dw K H (.ref a) (.tuple ds)
inductive DwAll (K : PySem.W.Frag) (H : Hp) : List V → List WData → Prop
  | nil : DwAll K H [] []
  | cons {v : V} {vs : List V} {d : WData} {ds : List WData} : Dw K H v d → DwAll K H vs ds → DwAll K H (v :: vs) (d :: ds)
end
theorem dw_ints {K : PySem.W.Frag} {H : Hp} : ∀ ns : List Int, DwAll K H (ns.map V.int) (ns.map WData.int)
  | [] => .nil
  | n :: r => .cons (.int n) (dw_ints r)
theorem ints_dw {K : PySem.W.Frag} {H : Hp} : ∀ (ns : List Int) (xs : List V), DwAll K H xs (ns.map WData.int) → xs = ns.map V.int
  | [], xs, h => by
    cases h
    rfl
  | n :: r, xs, h => by
    cases h with
    | cons h1 h2 =>
      cases h1
      rw [ints_dw r _ h2] <;> rfl
section
variable {P : Program} {w : World} {K : PySem.W.Frag} {H : Hp} {h : Heap} {R : PySem.W.WRecords} {cl : Str → Option Addr}
theorem sqL_at {a : Addr} {xs : List V} (hok : HOk P w H h) (KX : K.In h) (q : SqL K H a xs) : ∃ (its : List Value) (o : Obj) (n : Nat), Vals xs its ∧ h.get? a = some o ∧ o.cls = .type "list" ∧ o.data = .seq its.toArray n := by
  rcases q with q | ⟨o, its, n, e, hc, _, hd, _, hv⟩
  · obtain ⟨_, its, n, hv, e⟩ := (show ObjOk P w H h a (.lst xs) from q.ok hok)
    exact ⟨its, _, n, hv, e, rfl, rfl⟩
  · exact ⟨its.toList, o, n, hv, KX _ _ e, hc, by simp [hd]⟩
theorem sqT_at {a : Addr} {xs : List V} (hok : HOk P w H h) (KX : K.In h) (q : SqT K H a xs) : ∃ (its : List Value) (o : Obj) (n : Nat), Vals xs its ∧ h.get? a = some o ∧ o.cls = .type "tuple" ∧ o.data = .seq its.toArray n := by
  rcases q with q | ⟨o, its, n, e, hc, hd, _, hv⟩
  · obtain ⟨_, its, hv, o, e, hc, n, hd⟩ := (show ObjOk P w H h a (.tup xs) from q.ok hok)
    exact ⟨its, o, n, hv, e, hc, hd⟩
  · exact ⟨its.toList, o, n, hv, KX _ _ e, hc, by simp [hd]⟩
mutual
theorem Dw.reads (hok : HOk P w H h) (KX : K.In h) : ∀ (d : WData) (v : V) (u : Value), Dw K H v d → RelV v u → ∃ as, ReadsW R cl h u d as
  | .none, _, _, x, r => by
    cases x
    cases r
    exact ⟨_, ReadsW.none⟩
  | .bool b, _, _, x, r => by
    cases x
    cases r
    exact ⟨_, ReadsW.bool b⟩
  | .int i, _, _, x, r => by
    cases x
    obtain ⟨t, rfl⟩ := r
    exact ⟨_, ReadsW.int i t⟩
  | .str s, _, _, x, r => by
    cases x
    obtain ⟨t, rfl⟩ := r
    exact ⟨_, ReadsW.str s t⟩
  | .bytes b, _, _, x, r => by
    cases x
    obtain ⟨t, rfl⟩ := r
    exact ⟨_, ReadsW.bytes _ t⟩
  | .list ds, _, _, x, r => by
    cases x with
    | lst hs ha =>
      cases r
      obtain ⟨its, o, n, rv, ho, hc, hd⟩ := sqL_at hok KX hs
      obtain ⟨as, hr⟩ := Dw.readsAll hok KX ds _ its ha rv
      exact ⟨_, ReadsW.list ho hc hd hr⟩
  | .tuple ds, _, _, x, r => by
    cases x with
    | tup hs ha =>
      cases r
      obtain ⟨its, o, n, rv, ho, hc, hd⟩ := sqT_at hok KX hs
      obtain ⟨as, hr⟩ := Dw.readsAll hok KX ds _ its ha rv
      exact ⟨_, ReadsW.tuple ho hc hd hr⟩
  | .float _, _, _, x, _ => by cases x
  | .dict _, _, _, x, _ => by cases x
  | .bytearray _, _, _, x, _ => by cases x
  | .set _, _, _, x, _ => by cases x
  | .frozenset _, _, _, x, _ => by cases x
  | .obj _ _, _, _, x, _ => by cases x
theorem Dw.readsAll (hok : HOk P w H h) (KX : K.In h) : ∀ (ds : List WData) (vs : List V) (us : List Value), DwAll K H vs ds → Vals vs us → ∃ as, ReadsAllW R cl h us ds as
  | [], _, _, x, r => by
    cases x
    cases r
    exact ⟨_, ReadsAllW.nil⟩
  | d :: ds, _, _, x, r => by
    cases x with
    | cons h1 h2 =>
      cases r with
      | cons r1 r2 =>
        obtain ⟨as, q1⟩ := Dw.reads hok KX d _ _ h1 r1
        obtain ⟨bs, q2⟩ := Dw.readsAll hok KX ds _ _ h2 r2
        exact ⟨_, ReadsAllW.cons q1 q2⟩
end
end
/-! ### the arguments -/
mutual
/-- data that a codec tells -/
def plW : WData → Bool
  | .none => true
  | .bool _ => true
  | .int _ => true
  | .str _ => true
  | .bytes _ => true
  | .list xs => plWs xs
  | .tuple xs => plWs xs
  | _ => false
def plWs : List WData → Bool
  | [] => true
  | x :: r => plW x && plWs r
end
theorem plWs_map {α : Type} {f : α → WData} (h : ∀ a, plW (f a) = true) : ∀ l : List α, plWs (l.map f) = true
  | [] => rfl
  | x :: r => by
    show (plW (f x) && plWs (r.map f)) = true
    rw [h x, plWs_map h r] <;> rfl
theorem pl_enc : ∀ (c : Codec) (a : c.denote), plW (c.enc a) = true
  | .unit, _ => rfl
  | .bool, _ => rfl
  | .int _ _, _ => rfl
  | .nat _ _, _ => rfl
  | .u8, _ => rfl
  | .bytes _ _, _ => rfl
  | .text _ _ _ _, _ => rfl
  | .list _ _ c, a => plWs_map (fun x => pl_enc c x) a
  | .pair c d, a => by
    show (plW (c.enc a.1) && (plW (d.enc a.2) && true)) = true
    rw [pl_enc c a.1, pl_enc d a.2] <;> rfl
  | .triple c d e, a => by
    show (plW (c.enc a.1) && (plW (d.enc a.2.1) && (plW (e.enc a.2.2) && true))) = true
    rw [pl_enc c a.1, pl_enc d a.2.1, pl_enc e a.2.2] <;> rfl
  | .option c, none => rfl
  | .option c, some x => pl_enc c x
theorem pl_encAll : ∀ (cs : List Codec) (a : Codec.denoteAll cs), plWs (Codec.encAll cs a) = true
  | [], _ => rfl
  | c :: cs, a => by
    show (plW (c.enc a.1) && plWs (Codec.encAll cs a.2)) = true
    rw [pl_enc c a.1, pl_encAll cs a.2] <;> rfl
theorem weight_mem : ∀ {xs : List WData} {d : WData}, d ∈ xs → d.weight ≤ WData.weightAll xs
  | [], d, h => absurd h (by simp)
  | x :: r, d, h => by
    show d.weight ≤ x.weight + 1 + WData.weightAll r
    rcases List.mem_cons.mp h with e | m
    · rw [e]
      omega
    · have z := weight_mem m
      omega
def toV : Value → V
  | .none => .non
  | .bool b => .bl b
  | .int i _ => .int i
  | .str x _ => .str x
  | .bytes b _ => .byt b
  | .ref a => .ref a
  | _ => .non
/-- a value of the arguments, its objects among A -/
def OkU (A : List Addr) : Value → Prop
  | .none => True
  | .bool _ => True
  | .int _ _ => True
  | .str _ _ => True
  | .bytes _ _ => True
  | .ref a => a ∈ A
  | _ => False
theorem OkU.mono {A B : List Addr} (h : ∀ a ∈ A, a ∈ B) : ∀ {u : Value}, OkU A u → OkU B u := fun {u} x => by
  cases u with
  | ref a => exact h a x
  | none => trivial
  | bool b => trivial
  | int i t => trivial
  | str s t => trivial
  | bytes b t => trivial
  | _ => exact False.elim x
theorem relV_toV {A : List Addr} {u : Value} (x : OkU A u) : RelV (toV u) u := by
  cases u with
  | ref a => rfl
  | none => rfl
  | bool b => rfl
  | int i t => exact ⟨t, rfl⟩
  | str s t => exact ⟨t, rfl⟩
  | bytes b t => exact ⟨t, rfl⟩
  | _ => exact False.elim x
theorem vals_toV {A : List Addr} : ∀ {vs : List Value}, (∀ u ∈ vs, OkU A u) → Vals (vs.map toV) vs
  | [], _ => .nil
  | u :: r, h => .cons (relV_toV (h u (List.mem_cons_self ..))) (vals_toV fun x hx => h x (List.mem_cons_of_mem _ hx))
/-- an object of the arguments -/
def ArgOb (h : Heap) (A : List Addr) (a : Addr) : Prop := ∃ vs : List Value, vs.length ≤ sizeLine ∧ (∀ u ∈ vs, OkU A u) ∧
  (h.get? a = some { cls := .type "list", data := .seq vs.toArray } ∨ h.get? a = some { cls := .type "tuple", data := .seq vs.toArray })
theorem ArgOb.mono {h : Heap} {A B : List Addr} {a : Addr} (k : ∀ a ∈ A, a ∈ B) (x : ArgOb h A a) : ArgOb h B a := by
  obtain ⟨vs, h1, h2, h3⟩ := x
  exact ⟨vs, h1, fun u hu => (h2 u hu).mono k, h3⟩
theorem wellAll_len {P : Params} {h : Heap} : ∀ {vs : List Value} {ds : List WData}, WellAll P h vs ds → vs.length = ds.length
  | _, _, .nil => rfl
  | _, _, .cons _ b => by
    show _ + 1 = _ + 1
    rw [wellAll_len b]
theorem well_list {P : Params} {h : Heap} {v : Value} {ds : List WData} (x : Well P h v (.list ds)) : ∃ (a : Addr) (vs : List Value), v = .ref a ∧ h.get? a = some { cls := .type "list", data := .seq vs.toArray } ∧ WellAll P h vs ds := by
  cases x with
  | list ho hall => exact ⟨_, _, rfl, ho, hall⟩
theorem well_tuple {P : Params} {h : Heap} {v : Value} {ds : List WData} (x : Well P h v (.tuple ds)) : ∃ (a : Addr) (vs : List Value), v = .ref a ∧ h.get? a = some { cls := .type "tuple", data := .seq vs.toArray } ∧ WellAll P h vs ds := by
  cases x with
  | tuple ho hall => exact ⟨_, _, rfl, ho, hall⟩
theorem well_cons {P : Params} {h : Heap} {us : List Value} {d : WData} {ds : List WData} (x : WellAll P h us (d :: ds)) : ∃ (v : Value) (vs : List Value), us = v :: vs ∧ Well P h v d ∧ WellAll P h vs ds := by
  cases x with
  | cons a b => exact ⟨_, _, rfl, a, b⟩
theorem line_of {n : Nat} (h : n ≤ 1048576) : n ≤ sizeLine := Nat.le_trans h (by decide)
section
variable {P : Params} {h : Heap}
mutual
theorem area_one : ∀ (d : WData) (v : Value), Well P h v d → plW d = true → d.weight ≤ 1048576 → ∃ A : List Addr, OkU A v ∧ ∀ a ∈ A, ArgOb h A a
  | .none, _, x, _, _ => by
    cases x
    exact ⟨[], trivial, fun a m => absurd m (by simp)⟩
  | .bool b, _, x, _, _ => by
    cases x
    exact ⟨[], trivial, fun a m => absurd m (by simp)⟩
  | .int i, _, x, _, _ => by
    cases x
    exact ⟨[], trivial, fun a m => absurd m (by simp)⟩
  | .str s, _, x, _, _ => by
    cases x
    exact ⟨[], trivial, fun a m => absurd m (by simp)⟩
  | .bytes b, _, x, _, _ => by
    cases x
    exact ⟨[], trivial, fun a m => absurd m (by simp)⟩
  | .list ds, _, x, p, z => by
    obtain ⟨a, vs, rfl, ho, hall⟩ := well_list x
    have z2 : WData.weightAll ds ≤ 1048576 := z
    obtain ⟨A, h1, h2⟩ := area_all ds _ hall p fun d hd => Nat.le_trans (weight_mem hd) z2
    have k : ∀ b ∈ A, b ∈ a :: A := fun b hb => List.mem_cons_of_mem _ hb
    refine ⟨a :: A, List.mem_cons_self .., fun b hb => ?_⟩
    rcases List.mem_cons.mp hb with e | m
    · rw [e]
      exact ⟨vs, line_of (by rw [wellAll_len hall]; exact Nat.le_trans (PySem.W.length_le_weightAllW ds) z2), fun u hu => (h1 u hu).mono k, .inl ho⟩
    · exact (h2 b m).mono k
  | .tuple ds, _, x, p, z => by
    obtain ⟨a, vs, rfl, ho, hall⟩ := well_tuple x
    have z2 : WData.weightAll ds ≤ 1048576 := z
    obtain ⟨A, h1, h2⟩ := area_all ds _ hall p fun d hd => Nat.le_trans (weight_mem hd) z2
    have k : ∀ b ∈ A, b ∈ a :: A := fun b hb => List.mem_cons_of_mem _ hb
    refine ⟨a :: A, List.mem_cons_self .., fun b hb => ?_⟩
    rcases List.mem_cons.mp hb with e | m
    · rw [e]
      exact ⟨vs, line_of (by rw [wellAll_len hall]; exact Nat.le_trans (PySem.W.length_le_weightAllW ds) z2), fun u hu => (h1 u hu).mono k, .inr ho⟩
    · exact (h2 b m).mono k
  | .float _, _, _, p, _ => Bool.noConfusion (show false = true from p)
  | .dict _, _, _, p, _ => Bool.noConfusion (show false = true from p)
  | .bytearray _, _, _, p, _ => Bool.noConfusion (show false = true from p)
  | .set _, _, _, p, _ => Bool.noConfusion (show false = true from p)
  | .frozenset _, _, _, p, _ => Bool.noConfusion (show false = true from p)
  | .obj _ _, _, _, p, _ => Bool.noConfusion (show false = true from p)
theorem area_all : ∀ (ds : List WData) (vs : List Value), WellAll P h vs ds → plWs ds = true → (∀ d ∈ ds, d.weight ≤ 1048576) → ∃ A : List Addr, (∀ u ∈ vs, OkU A u) ∧ ∀ a ∈ A, ArgOb h A a
  | [], _, x, _, _ => by
    cases x
    exact ⟨[], fun u m => absurd m (by simp), fun a m => absurd m (by simp)⟩
  | d :: ds, _, x, p, z => by
    obtain ⟨v, vs, rfl, x1, x2⟩ := well_cons x
    have q : plW d = true ∧ plWs ds = true := Bool.and_eq_true_iff.mp p
    obtain ⟨A, a1, a2⟩ := area_one d v x1 q.1 (z d (List.mem_cons_self ..))
    obtain ⟨B, b1, b2⟩ := area_all ds vs x2 q.2 fun e he => z e (List.mem_cons_of_mem _ he)
    have kA : ∀ b ∈ A, b ∈ A ++ B := fun b hb => List.mem_append.mpr (.inl hb)
    have kB : ∀ b ∈ B, b ∈ A ++ B := fun b hb => List.mem_append.mpr (.inr hb)
    refine ⟨A ++ B, fun u hu => ?_, fun b hb => ?_⟩
    · rcases List.mem_cons.mp hu with e | m
      · rw [e]
        exact a1.mono kA
      · exact (b1 u m).mono kB
    · rcases List.mem_append.mp hb with m | m
      · exact (a2 b m).mono kA
      · exact (b2 b m).mono kB
end
end
/-- what is tracked of an argument's object -/
def hoOf (o : Obj) : Option HO := match o.data with
  | .seq vs _ => if (o.cls == Value.type "list") = true then some (.frz o (.lst (vs.toList.map toV))) else some (.frz o (.tup (vs.toList.map toV)))
  | _ => none
def argH (K : PySem.W.Frag) (h : Heap) (A : List Addr) : Hp := fun b => if b ∈ A then (if (K.lookup b).isNone = true then (h.get? b).bind hoOf else none) else none
/-- nothing is tracked but what is known to the object -/
def OnlyF (H : Hp) : Prop := ∀ b, H b = none ∨ ∃ o u, H b = some (.frz o u)
theorem hoOf_lst (vs : List Value) : hoOf { cls := .type "list", data := .seq vs.toArray } = some (.frz { cls := .type "list", data := .seq vs.toArray } (.lst (vs.map toV))) := by
  show (if (Value.type "list" == Value.type "list") = true then some (HO.frz { cls := .type "list", data := .seq vs.toArray } (.lst (vs.toArray.toList.map toV))) else some (HO.frz { cls := .type "list", data := .seq vs.toArray } (.tup (vs.toArray.toList.map toV)))) = _
  rw [if_pos (beq_self_eq_true _)]
theorem hoOf_tup (vs : List Value) : hoOf { cls := .type "tuple", data := .seq vs.toArray } = some (.frz { cls := .type "tuple", data := .seq vs.toArray } (.tup (vs.map toV))) := by
  show (if (Value.type "tuple" == Value.type "list") = true then some (HO.frz { cls := .type "tuple", data := .seq vs.toArray } (.lst (vs.toArray.toList.map toV))) else some (HO.frz { cls := .type "tuple", data := .seq vs.toArray } (.tup (vs.toArray.toList.map toV)))) = _
  rw [if_neg (by decide)]
section
variable {P : Program} {w : World} {K : PySem.W.Frag} {h : Heap} {A : List Addr}
theorem argH_at {b : Addr} {o : Obj} (hb : b ∈ A) (hk : K.lookup b = none) (e : h.get? b = some o) : argH K h A b = hoOf o := by
  unfold argH
  rw [if_pos hb, hk, if_pos (show (none : Option Obj).isNone = true from rfl), e] <;> rfl
theorem of_argH {b : Addr} {u : HO} (q : argH K h A b = some u) : b ∈ A ∧ K.lookup b = none := by
  unfold argH at q
  by_cases hb : b ∈ A
  · rw [if_pos hb] at q
    cases hk : K.lookup b with
    | none => exact ⟨hb, rfl⟩
    | some o =>
      rw [hk, if_neg (by simp)] at q
      cases q
  · rw [if_neg hb] at q
    cases q
/-- what stands tracked -/
theorem argH_is (ar : ∀ a ∈ A, ArgOb h A a) {b : Addr} {u : HO} (q : argH K h A b = some u) : K.lookup b = none ∧ ∃ vs : List Value, vs.length ≤ sizeLine ∧ (∀ u ∈ vs, OkU A u) ∧
    ((h.get? b = some { cls := .type "list", data := .seq vs.toArray } ∧ u = .frz { cls := .type "list", data := .seq vs.toArray } (.lst (vs.map toV))) ∨
     (h.get? b = some { cls := .type "tuple", data := .seq vs.toArray } ∧ u = .frz { cls := .type "tuple", data := .seq vs.toArray } (.tup (vs.map toV)))) := by
  obtain ⟨hb, hk⟩ := of_argH q
  obtain ⟨vs, h1, h2, h3⟩ := ar b hb
  refine ⟨hk, vs, h1, h2, ?_⟩
  rcases h3 with e | e
  · rw [argH_at hb hk e, hoOf_lst] at q
    exact .inl ⟨e, (Option.some.inj q).symm⟩
  · rw [argH_at hb hk e, hoOf_tup] at q
    exact .inr ⟨e, (Option.some.inj q).symm⟩
theorem argH_only (ar : ∀ a ∈ A, ArgOb h A a) : OnlyF (argH K h A) := fun b => by
  cases q : argH K h A b with
  | none => exact .inl rfl
  | some u =>
    obtain ⟨_, vs, _, _, ⟨_, e⟩ | ⟨_, e⟩⟩ := argH_is ar q
    · exact .inr ⟨_, _, by rw [e]⟩
    · exact .inr ⟨_, _, by rw [e]⟩
theorem argH_ok (ar : ∀ a ∈ A, ArgOb h A a) : HOk P w (argH K h A) h := fun b u q => by
  obtain ⟨_, vs, h1, h2, ⟨e, rfl⟩ | ⟨e, rfl⟩⟩ := argH_is ar q
  · exact ⟨e, by rw [List.length_map]; exact h1, vs, _, vals_toV h2, e⟩
  · exact ⟨e, by rw [List.length_map]; exact h1, vs, vals_toV h2, _, e, rfl, _, rfl⟩
theorem seq_inj {c c' : Value} {vs us : List Value} (e : (some { cls := c, data := .seq vs.toArray } : Option Obj) = some { cls := c', data := .seq us.toArray }) : c = c' ∧ vs = us := by
  have e1 := Option.some.inj e
  have e2 : c = c' := congrArg Obj.cls e1
  have e3 : Data.seq vs.toArray = Data.seq us.toArray := congrArg Obj.data e1
  injection e3 with e4
  refine ⟨e2, ?_⟩
  have e5 := congrArg Array.toList e4
  simpa using e5
/-- a list argument -/
theorem argL (KX : K.In h) (ar : ∀ a ∈ A, ArgOb h A a) {a : Addr} {vs : List Value} (ha : a ∈ A) (e : h.get? a = some { cls := .type "list", data := .seq vs.toArray }) : (∀ u ∈ vs, OkU A u) ∧ SqL K (argH K h A) a (vs.map toV) := by
  obtain ⟨us, h1, h2, h3⟩ := ar a ha
  have hu : us = vs := by
    rcases h3 with q | q
    · rw [e] at q
      exact (seq_inj q).2.symm
    · rw [e] at q
      exact absurd (Value.type.inj (seq_inj q).1) (by decide)
  subst hu
  refine ⟨h2, ?_⟩
  cases hk : K.lookup a with
  | none => exact .inl (.inr ⟨_, by rw [argH_at ha hk e, hoOf_lst]⟩)
  | some o =>
    have e2 := KX a o hk
    rw [e] at e2
    obtain rfl := Option.some.inj e2
    exact .inr ⟨_, us.toArray, _, hk, rfl, rfl, rfl, by rw [List.size_toArray]; exact h1, by simpa using vals_toV h2⟩
theorem argT (KX : K.In h) (ar : ∀ a ∈ A, ArgOb h A a) {a : Addr} {vs : List Value} (ha : a ∈ A) (e : h.get? a = some { cls := .type "tuple", data := .seq vs.toArray }) : (∀ u ∈ vs, OkU A u) ∧ SqT K (argH K h A) a (vs.map toV) := by
  obtain ⟨us, h1, h2, h3⟩ := ar a ha
  have hu : us = vs := by
    rcases h3 with q | q
    · rw [e] at q
      exact absurd (Value.type.inj (seq_inj q).1) (by decide)
    · rw [e] at q
      exact (seq_inj q).2.symm
  subst hu
  refine ⟨h2, ?_⟩
  cases hk : K.lookup a with
  | none => exact .inl (.inr ⟨_, by rw [argH_at ha hk e, hoOf_tup]⟩)
  | some o =>
    have e2 := KX a o hk
    rw [e] at e2
    obtain rfl := Option.some.inj e2
    exact .inr ⟨_, us.toArray, _, hk, rfl, rfl, by rw [List.size_toArray]; exact h1, by simpa using vals_toV h2⟩
mutual
theorem dw_one {Pm : Params} (KX : K.In h) (ar : ∀ a ∈ A, ArgOb h A a) : ∀ (d : WData) (v : Value), Well Pm h v d → plW d = true → OkU A v → Dw K (argH K h A) (toV v) d
  | .none, _, x, _, _ => by
    cases x
    exact .non
  | .bool b, _, x, _, _ => by
    cases x
    exact .bl b
  | .int i, _, x, _, _ => by
    cases x
    exact .int i
  | .str s, _, x, _, _ => by
    cases x
    exact .str s
  | .bytes b, _, x, _, _ => by
    cases x
    have z := Dw.byt (K := K) (H := argH K h A) b.toArray
    exact z
  | .list ds, _, x, p, hu => by
    obtain ⟨a, vs, rfl, ho, hall⟩ := well_list x
    obtain ⟨h2, hs⟩ := argL KX ar hu ho
    exact .lst hs (dw_all KX ar ds _ hall p h2)
  | .tuple ds, _, x, p, hu => by
    obtain ⟨a, vs, rfl, ho, hall⟩ := well_tuple x
    obtain ⟨h2, hs⟩ := argT KX ar hu ho
    exact .tup hs (dw_all KX ar ds _ hall p h2)
  | .float _, _, _, p, _ => Bool.noConfusion (show false = true from p)
  | .dict _, _, _, p, _ => Bool.noConfusion (show false = true from p)
  | .bytearray _, _, _, p, _ => Bool.noConfusion (show false = true from p)
  | .set _, _, _, p, _ => Bool.noConfusion (show false = true from p)
  | .frozenset _, _, _, p, _ => Bool.noConfusion (show false = true from p)
  | .obj _ _, _, _, p, _ => Bool.noConfusion (show false = true from p)
theorem dw_all {Pm : Params} (KX : K.In h) (ar : ∀ a ∈ A, ArgOb h A a) : ∀ (ds : List WData) (vs : List Value), WellAll Pm h vs ds → plWs ds = true → (∀ u ∈ vs, OkU A u) → DwAll K (argH K h A) (vs.map toV) ds
  | [], _, x, _, _ => by
    cases x
    exact .nil
  | d :: ds, _, x, p, hu => by
    obtain ⟨v, vs, rfl, x1, x2⟩ := well_cons x
    have q : plW d = true ∧ plWs ds = true := Bool.and_eq_true_iff.mp p
    exact .cons (dw_one KX ar d v x1 q.1 (hu _ (List.mem_cons_self ..))) (dw_all KX ar ds vs x2 q.2 fun u m => hu u (List.mem_cons_of_mem _ m))
end
end
/-! ### the call -/
theorem spec_call {P : Program} {w : World} {K : PySem.W.Frag} {mg mb : Str → Option Value} {CX : CXT} {k : Nat} {fa : Addr} {fd : FuncData} {ps : List Str} {sp : Sp} {s₁ : Shared} {vals : List Value} {ds : List WData} {R : PySem.W.WRecords} {cl : Str → Option Addr} {d0 : WData}
    (KX : K.In s₁.heap) (hns : s₁.heap.Ns mainGlobals mg) (hb : s₁.heap.Ns builtinsNs mb) (hbb : ∀ x : Str, x ≠ "__name__" → mb x = bootBuiltins x) (hlim : s₁.heap.NoLimit) (hg : s₁.gens = #[])
    (hwl : WellAll w.params s₁.heap vals ds) (hpl : plWs ds = true) (hwt : ∀ d ∈ ds, d.weight ≤ 1048576) (hr : Room k callerA)
    (F : ∀ base : Heap, K.In base → base.Ns mainGlobals mg → FnOk P w K mg base CX k fa fd ps sp) (hbind : ∀ (s : Shared) (us : List Value), us.length = ps.length → BindsTo s fd ⟨us, []⟩ (ps.zip us)) (hlen : ds.length = ps.length)
    (hsp : ∀ (H : Hp) (xs : List V), OnlyF H → DwAll K H xs ds → sp xs H (fun v H' => Dw K H' v d0) fun _ _ _ => False)
    (hCX : ∀ H e s', CX [] H s₁ (fun _ _ _ => False) e s' → False) :
    codeAny (model P w) callerA (.call (.ref fa) ⟨vals, []⟩) (fun r s' => ∃ u as, r = .ok (.ret u) ∧ ReadsW R cl s'.heap u d0 as ∧ OldK s₁.heap s'.heap ∧ s'.os = s₁.os ∧ AllBare s'.gens) s₁ := by
  obtain ⟨A, ho, ar⟩ := area_all ds vals hwl hpl hwt
  have hO : OnlyF (argH K s₁.heap A) := argH_only ar
  have hok : HOk P w (argH K s₁.heap A) s₁.heap := argH_ok ar
  have hS := dw_all KX ar ds vals hwl hpl ho
  have hV := vals_toV ho
  have hK : ∀ b u, argH K s₁.heap A b = some u → K.lookup b = none := fun b u q => (argH_is ar q).1
  have noA : ∀ {b : Addr} {o : Obj} {es : Array DictEntry} {ep : Nat}, s₁.heap.get? b = some o → o.data = .dict es ep → argH K s₁.heap A b = none := fun {b o es ep} e d => by
    cases q : argH K s₁.heap A b with
    | none => rfl
    | some u =>
      obtain ⟨_, vs, _, _, ⟨e2, _⟩ | ⟨e2, _⟩⟩ := argH_is ar q
      · rw [e2] at e
        cases e
        have d' : Data.seq vs.toArray _ = Data.dict es ep := d
        cases d'
      · rw [e2] at e
        cases e
        have d' : Data.seq vs.toArray _ = Data.dict es ep := d
        cases d'
  generalize argH K s₁.heap A = H at hO hok hS hK noA
  have base_of : ∀ {b : Addr} {o : Obj}, s₁.heap.get? b = some o → H b = none → (hidT s₁.heap H).get? b = some o := fun e n => hidT_get e n
  have nsK : ∀ {b : Addr} {m : Str → Option Value}, s₁.heap.Ns b m → (hidT s₁.heap H).Ns b m := fun {b m} ⟨o, es, ep, e, d, r⟩ => ⟨o, es, ep, base_of e (noA e d), d, r⟩
  have nK : ∀ b o, K.lookup b = some o → H b = none := fun b o e => by
    cases q : H b with
    | none => rfl
    | some u =>
      rw [hK b u q] at e
      cases e
  have hKb : K.In (hidT s₁.heap H) := fun b o e => base_of (KX b o e) (nK b o e)
  have hM : Mod K mg (hidT s₁.heap H) := ⟨hKb, nsK hns, ⟨mb, nsK hb, hbb⟩, let ⟨mc, h1, h2⟩ := hlim; ⟨mc, nsK h1, h2⟩⟩
  have e0 : Env0 P w K mg (hidT s₁.heap H) callerA [] s₁ H := ⟨rfl, hM, fun b o e => of_hidT e, Nat.le_of_eq (hidT_size _ _), trivial, fun b hb => absurd (show b ∈ ([] : List Addr) from hb) (by simp), hok, .of_eq hg⟩
  have hl : vals.length = ps.length := by rw [wellAll_len hwl]; exact hlen
  refine codeAny_mono ((F _ hKb (nsK hns)).run callerA [] s₁ H ⟨vals, []⟩ vals (vals.map toV) _ _ hr e0 (hbind s₁ vals hl) hV (hsp H _ hO hS)) fun r s' x => ?_
  cases r with
  | error e => exact (hCX H e s' x).elim
  | ok fl =>
    cases fl with
    | next => exact False.elim x
    | brk => exact False.elim x
    | cont => exact False.elim x
    | ret u =>
      obtain ⟨v, H', os, bare, un, hok', r', q⟩ := x
      have kept : ∀ b o, s₁.heap.get? b = some o → s'.heap.get? b = some o := fun b o e => by
        cases q2 : H b with
        | none => exact un.keep b o e q2 (by intro z; exact absurd (show b ∈ ([] : List Addr) from z) (by simp)) (by simp)
        | some u2 =>
          rcases hO b with z | ⟨ob, u3, z⟩
          · rw [q2] at z
            cases z
          · have z2 := un.frzs b ob _ z
            obtain ⟨e1, _⟩ := hok b _ z
            obtain ⟨e2, _⟩ := hok' b _ z2
            rw [e] at e1
            cases e1
            exact e2
      have KX' : K.In s'.heap := fun b o e => kept b o (KX b o e)
      obtain ⟨as, hrd⟩ := Dw.reads (R := R) (cl := cl) hok' KX' d0 v u q r'
      exact ⟨u, as, rfl, hrd, OldK.of_keep kept, os, bare⟩
/-! ### the row -/
theorem layable_weight {ds : List WData} (h : WData.layableAll ds = true) : ∀ d ∈ ds, d.weight ≤ 1048576 := fun d hd =>
  (PySem.W.layableW_iff.mp (List.all_eq_true.mp h d hd)).2.2
theorem encAll_len : ∀ (cs : List Codec) (a : Codec.denoteAll cs), (Codec.encAll cs a).length = cs.length
  | [], _ => rfl
  | c :: cs, a => by
    show (Codec.encAll cs a.2).length + 1 = cs.length + 1
    rw [encAll_len cs a.2]
/-- the goal that k_headS leaves (case hc), from the promise of the row's def: whatever the arguments that the codecs let and the row asks for, the def gives what stands for enc (f ..) -/
theorem walk_spec {r : OpenSpec} {k : Nat} {q : Program} {loose : List Str} {XP : (Str → Option Value) → Heap → Prop} {YP : World → Heap → Prop} {d : DefRec} {K : Params → PySem.W.Frag} {CX : World → CXT} {ps : List Str} {sp : World → Sp}
    (hwell : r.wellSaid = true) (hdf : d.params.defaults = []) (hlen : r.args.length = ps.length) (hr : Room k callerA)
    (hY : ∀ (w : World) (h : Heap), YP w h → (K w.params).In h)
    (F : ∀ (w : World) (mg : Str → Option Value) (fa : Addr) (h : Heap), YP w h → (K w.params).In h → h.Ns mainGlobals mg → mg d.name = some (.ref fa) →
      ∃ fd : FuncData, (∀ (s : Shared) (us : List Value), us.length = ps.length → BindsTo s fd ⟨us, []⟩ (ps.zip us)) ∧
        ∀ base : Heap, (K w.params).In base → base.Ns mainGlobals mg → FnOk r.prog w (K w.params) mg base (CX w) k fa fd ps (sp w))
    (hsp : ∀ (w : World) (H : Hp) (xs : List V) (a : Codec.denoteAll r.args), OnlyF H → Codec.withinAll r.args a = true → Codec.app r.args r.asked a = true → DwAll (K w.params) H xs (Codec.encAll r.args a) →
      sp w xs H (fun v H' => Dw (K w.params) H' v (r.ret.enc (Codec.app r.args r.f a))) fun _ _ _ => False)
    (hCX : ∀ (w : World) (H : Hp) (s : Shared) (e : Value) (s' : Shared), CX w [] H s (fun _ _ _ => False) e s' → False) :
    PySem.W.WalkOS q loose XP YP r d [] (fun f vs => PySem.call f vs) := by
  intro w s_0 s₁ mg mb G Y fa o pm cd doc dV kV ho hd hcd hD hmg hg args vals as hpre hlay hrd hwl hlo
  obtain ⟨a, e1, e2⟩ := PySem.W.os_pre_some hpre
  obtain ⟨e3, hwi⟩ := Codec.encAll_of_decAll r.args args a e1
  subst e3
  have KX := hY w _ Y
  obtain ⟨fd, hb, hF⟩ := F w mg fa _ Y KX G.T.g hmg
  refine PySem.W.enter_call (codeAny_mono (spec_call (R := []) (cl := classAt s_0.heap) (d0 := r.ret.enc (Codec.app r.args r.f a)) KX G.T.g G.T.b G.T.builtins G.T.nolimit hg hwl (pl_encAll _ _) (layable_weight hlay) hr hF hb (by rw [encAll_len]; exact hlen)
    (fun H xs hO hS => hsp w H xs a hO hwi e2 hS) fun H e s' => hCX w H s₁ e s') fun r' s' hq => ?_)
  obtain ⟨u, as', rfl, h1, h2, h3, h4⟩ := hq
  exact ⟨.inl ⟨u, _, as', rfl, fun _ => rfl, h1, (OpenSpec.post_iff hwell hwi _ _).mpr rfl, fun z => Bool.noConfusion (show false = true from z)⟩, h2, h3, h4⟩
/-- the same where the promise hangs on the written part alone -/
theorem walk_specK {r : OpenSpec} {k : Nat} {q : Program} {loose : List Str} {XP : (Str → Option Value) → Heap → Prop} {YP : World → Heap → Prop} {d : DefRec} {K : Params → PySem.W.Frag} {CX : CXT} {ps : List Str} {sp : PySem.W.Frag → Sp}
    (hwell : r.wellSaid = true) (hdf : d.params.defaults = []) (hlen : r.args.length = ps.length) (hr : Room k callerA)
    (hY : ∀ (w : World) (h : Heap), YP w h → (K w.params).In h)
    (F : ∀ (w : World) (mg : Str → Option Value) (fa : Addr) (h : Heap), YP w h → (K w.params).In h → h.Ns mainGlobals mg → mg d.name = some (.ref fa) →
      ∃ fd : FuncData, (∀ (s : Shared) (us : List Value), us.length = ps.length → BindsTo s fd ⟨us, []⟩ (ps.zip us)) ∧
        ∀ base : Heap, (K w.params).In base → base.Ns mainGlobals mg → FnOk r.prog w (K w.params) mg base CX k fa fd ps (sp (K w.params)))
    (hsp : ∀ (K : PySem.W.Frag) (H : Hp) (xs : List V) (a : Codec.denoteAll r.args), OnlyF H → Codec.withinAll r.args a = true → Codec.app r.args r.asked a = true → DwAll K H xs (Codec.encAll r.args a) →
      sp K xs H (fun v H' => Dw K H' v (r.ret.enc (Codec.app r.args r.f a))) fun _ _ _ => False)
    (hCX : ∀ (H : Hp) (s : Shared) (e : Value) (s' : Shared), CX [] H s (fun _ _ _ => False) e s' → False) :
    PySem.W.WalkOS q loose XP YP r d [] (fun f vs => PySem.call f vs) :=
  walk_spec (K := K) (CX := fun _ => CX) (sp := fun w => sp (K w.params)) hwell hdf hlen hr hY F (fun w H xs a h1 h2 h3 h4 => hsp (K w.params) H xs a h1 h2 h3 h4) fun _ H s e s' => hCX H s e s'
end L2
-- rests on (row put in by the clerk, for the bench that shows a file only what it spells): KE.SpHead KE.OsShapes
end
set_option linter.all false
namespace My
abbrev Pt := Rat × Rat
open Ql88 (left)

theorem left_self (a b : Pt) : left a b b = 0 := by unfold left; grind
/-- a stack of corners, the last one first: every corner of D lies on or below each part of it -/
def Chain (D : Pt → Prop) : List Pt → Prop
  | [] => False
  | [b] => ∀ d, D d → d.2 ≤ b.2
  | b :: a :: r => a.1 < b.1 ∧ b.2 ≤ a.2 ∧ (∀ d, D d → left a b d ≤ 0) ∧ Chain D (a :: r)
def push (q : Pt → Pt → Bool) : List Pt → Pt → List Pt
  | [], c => [c]
  | [b], c => if q b c = true then [c] else [c, b]
  | b :: a :: r, c => if 0 ≤ left a b c then push q (a :: r) c else c :: b :: a :: r
def With (D : Pt → Prop) (c : Pt) : Pt → Prop := fun d => D d ∨ d = c

theorem mul_np {x y : Rat} (hx : x ≤ 0) (hy : 0 ≤ y) : x * y ≤ 0 := by
  have := Rat.mul_nonneg (a := -x) (b := y) (by grind) hy
  grind
theorem mul_nn {x y : Rat} (hx : x ≤ 0) (hy : y ≤ 0) : 0 ≤ x * y := by
  have := Rat.mul_nonneg (a := -x) (b := -y) (by grind) (by grind)
  grind
/-- a factor that is above 0 goes -/
theorem np_of {x y : Rat} (hy : 0 < y) (h : x * y ≤ 0) : x ≤ 0 := by
  have h' : x * y ≤ 0 * y := by grind
  exact Rat.le_of_mul_le_mul_right h' hy

theorem left_deep {z a b c : Pt} (h1 : z.1 < a.1) (h2 : a.1 < b.1) (h3 : b.1 ≤ c.1) (hb : left z a b ≤ 0) (hc : left a b c ≤ 0) : left z a c ≤ 0 := by
  have e : left z a c * (b.1 - a.1) = left z a b * (c.1 - a.1) + left a b c * (a.1 - z.1) := by unfold left; grind
  have p1 := mul_np hb (show 0 ≤ c.1 - a.1 by grind)
  have p2 := mul_np hc (show 0 ≤ a.1 - z.1 by grind)
  exact np_of (show 0 < b.1 - a.1 by grind) (by grind)
theorem left_pop {a b c d : Pt} (h1 : a.1 < b.1) (h2 : b.1 ≤ c.1) (h3 : a.1 ≤ d.1) (hd : left a b d ≤ 0) (hc : 0 ≤ left a b c) : left a c d ≤ 0 := by
  have e : left a c d * (b.1 - a.1) = left a b d * (c.1 - a.1) - left a b c * (d.1 - a.1) := by unfold left; grind
  have p1 := mul_np hd (show 0 ≤ c.1 - a.1 by grind)
  have p2 := Rat.mul_nonneg hc (show 0 ≤ d.1 - a.1 by grind)
  exact np_of (show 0 < b.1 - a.1 by grind) (by grind)
theorem left_new {a b c d : Pt} (h1 : a.1 < b.1) (h2 : b.1 ≤ c.1) (h3 : d.1 ≤ b.1) (hd : left a b d ≤ 0) (hc : left a b c ≤ 0) : left b c d ≤ 0 := by
  have e : left b c d * (b.1 - a.1) = left a b d * (c.1 - b.1) - left a b c * (d.1 - b.1) := by unfold left; grind
  have p1 := mul_np hd (show 0 ≤ c.1 - b.1 by grind)
  have p2 := mul_nn hc (show d.1 - b.1 ≤ 0 by grind)
  exact np_of (show 0 < b.1 - a.1 by grind) (by grind)
theorem left_base {b c d : Pt} (h1 : b.1 ≤ c.1) (h2 : c.2 ≤ b.2) (h3 : d.1 ≤ b.1) (h4 : d.2 ≤ b.2) : left b c d ≤ 0 := by
  have e : left b c d = (d.2 - b.2) * (c.1 - b.1) - (c.2 - b.2) * (d.1 - b.1) := by unfold left; grind
  have p1 := mul_np (show d.2 - b.2 ≤ 0 by grind) (show 0 ≤ c.1 - b.1 by grind)
  have p2 := mul_nn (show c.2 - b.2 ≤ 0 by grind) (show d.1 - b.1 ≤ 0 by grind)
  grind
theorem lower_of {a b c : Pt} (h1 : a.1 < b.1) (h2 : b.1 ≤ c.1) (h3 : b.2 ≤ a.2) (hc : left a b c ≤ 0) : c.2 ≤ b.2 := by
  have e : left a b c = (c.2 - b.2) * (b.1 - a.1) - (b.2 - a.2) * (c.1 - b.1) := by unfold left; grind
  have p1 := mul_np (show b.2 - a.2 ≤ 0 by grind) (show 0 ≤ c.1 - b.1 by grind)
  have := np_of (x := c.2 - b.2) (show 0 < b.1 - a.1 by grind) (by grind)
  grind
theorem left_same {a b c : Pt} (h1 : a.1 < b.1) (e : b.1 = c.1) (h : b.2 ≤ c.2) : 0 ≤ left a b c := by
  have e : left a b c = (b.1 - a.1) * (c.2 - b.2) := by unfold left; grind
  rw [e]
  exact Rat.mul_nonneg (by grind) (by grind)

theorem Chain.add {D : Pt → Prop} {c : Pt} : ∀ {b : Pt} {r : List Pt}, Chain D (b :: r) → (∀ v, v ∈ b :: r → D v) → c.2 ≤ b.2 → b.1 ≤ c.1 → (∀ a s, r = a :: s → left a b c ≤ 0) → Chain (With D c) (b :: r)
  | b, [], h, _, hc, _, _ => fun d hd => by
    rcases hd with hd | rfl
    · exact h d hd
    · exact hc
  | b, a :: r, ⟨h1, h2, h3, h4⟩, hm, hc, hx, hl => by
    have l0 := hl a r rfl
    refine ⟨h1, h2, fun d hd => ?_, Chain.add h4 (fun v hv => hm v (List.mem_cons_of_mem _ hv)) (by grind) (by grind) fun z s e => ?_⟩
    · rcases hd with hd | rfl
      · exact h3 d hd
      · exact l0
    · subst e
      obtain ⟨g1, g2, g3, g4⟩ := h4
      exact left_deep g1 h1 hx (g3 b (hm b (List.mem_cons_self ..))) l0

/-- the stack's last one has been reached by everything, and one more comes on it -/
theorem push_chain {q : Pt → Pt → Bool} {D : Pt → Prop} {c : Pt} (lex : ∀ d, D d → d.1 < c.1 ∨ (d.1 = c.1 ∧ d.2 ≤ c.2)) :
    ∀ {b : Pt} {r : List Pt}, Chain D (b :: r) → (∀ v, v ∈ b :: r → D v) → (∀ z, (b :: r).getLast? = some z → q z c = true → z.2 ≤ c.2) → (∀ z, (b :: r).getLast? = some z → q z c = false → c.2 ≤ z.2 ∧ z.1 < c.1) →
      (∀ d, D d → b.1 < d.1 → left b c d ≤ 0) →
      ∃ s, push q (b :: r) c = c :: s ∧ Chain (With D c) (c :: s) ∧ (∀ v, v ∈ s → D v)
  | b, [], h, hm, hq, hq', g => by
    unfold push
    by_cases e : q b c = true
    · rw [if_pos e]
      refine ⟨[], rfl, fun d hd => ?_, fun v hv => nomatch hv⟩
      rcases hd with hd | rfl
      · exact Rat.le_trans (h d hd) (hq b rfl e)
      · exact Rat.le_refl
    · rw [if_neg e]
      obtain ⟨k1, k2⟩ := hq' b rfl (by simpa using e)
      refine ⟨[b], rfl, ⟨k2, k1, fun d hd => ?_, Chain.add (r := []) h hm k1 (by grind) (fun _ _ e => nomatch e)⟩, hm⟩
      rcases hd with hd | rfl
      · by_cases hx : b.1 < d.1
        · exact g d hd hx
        · exact left_base (by grind) k1 (by grind) (h d hd)
      · rw [left_self]; exact Rat.le_refl
  | b, a :: r, ⟨h1, h2, h3, h4⟩, hm, hq, hq', g => by
    unfold push
    have hb := lex b (hm b (List.mem_cons_self ..))
    have hbc : b.1 ≤ c.1 := by grind
    by_cases e : 0 ≤ left a b c
    · rw [if_pos e]
      exact push_chain lex h4 (fun v hv => hm v (List.mem_cons_of_mem _ hv)) (fun z hz => hq z (by simpa using hz)) (fun z hz => hq' z (by simpa using hz))
        fun d hd hx => left_pop h1 hbc (by grind) (h3 d hd) e
    · rw [if_neg e]
      have e' : left a b c ≤ 0 := by grind
      have hlt : b.1 < c.1 := by
        rcases hb with hb | ⟨hb, hb2⟩
        · exact hb
        · exact absurd (left_same h1 hb hb2) e
      have hlow := lower_of h1 hbc h2 e'
      refine ⟨b :: a :: r, rfl, ⟨hlt, hlow, fun d hd => ?_, Chain.add ⟨h1, h2, h3, h4⟩ hm hlow hbc fun a' s z => ?_⟩, hm⟩
      · rcases hd with hd | rfl
        · by_cases hx : b.1 < d.1
          · exact g d hd hx
          · exact left_new h1 hbc (by grind) (h3 d hd) e'
        · rw [left_self]; exact Rat.le_refl
      · cases z; exact e'
end My
set_option linter.all false
namespace My
open Ql88 (left)
/-- in the order of the sort -/
def Lex (a c : Pt) : Prop := a.1 < c.1 ∨ (a.1 = c.1 ∧ a.2 ≤ c.2)
def Plus (D : Pt → Prop) (cs : List Pt) : Pt → Prop := fun d => D d ∨ d ∈ cs
theorem plus_cons (D : Pt → Prop) (c : Pt) (cs : List Pt) : Plus (With D c) cs = Plus D (c :: cs) := by
  funext d
  unfold Plus With
  rw [List.mem_cons, or_assoc]
theorem plus_nil (D : Pt → Prop) : Plus D [] = D := by
  funext d
  unfold Plus
  simp
structure Fine (B D : Pt → Prop) (l : List Pt) : Prop where
  chain : Chain D l
  mem : ∀ v, v ∈ l → D v
  top : ∀ b r, l = b :: r → ∀ d, D d → d.1 ≤ b.1
  bot : ∀ z, l.getLast? = some z → B z
theorem push_last {q : Pt → Pt → Bool} {c z : Pt} : ∀ {l : List Pt}, (push q l c).getLast? = some z → l.getLast? = some z ∨ (z = c ∧ (l = [] ∨ ∃ y, l.getLast? = some y ∧ q y c = true))
  | [], h => by
    simp [push] at h
    exact .inr ⟨h.symm, .inl rfl⟩
  | [b], h => by
    unfold push at h
    by_cases e : q b c = true
    · rw [if_pos e] at h
      simp at h
      exact .inr ⟨h.symm, .inr ⟨b, rfl, e⟩⟩
    · rw [if_neg e] at h
      simp at h
      exact .inl (by simp [h])
  | b :: a :: r, h => by
    unfold push at h
    by_cases e : 0 ≤ left a b c
    · rw [if_pos e] at h
      rcases push_last h with h | ⟨h1, h2⟩
      · exact .inl (by simpa using h)
      · refine .inr ⟨h1, ?_⟩
        rcases h2 with h2 | ⟨y, h2, h3⟩
        · cases h2
        · exact .inr ⟨y, by simpa using h2, h3⟩
    · rw [if_neg e] at h
      exact .inl (by simpa using h)
theorem fold_fine {q : Pt → Pt → Bool} {B : Pt → Prop} : ∀ {cs : List Pt} {l : List Pt} {D : Pt → Prop},
    (∀ z c, c ∈ cs → B z → q z c = true → z.2 ≤ c.2 ∧ B c) → (∀ z c, c ∈ cs → B z → Lex z c → q z c = false → c.2 ≤ z.2 ∧ z.1 < c.1) →
    cs.Pairwise Lex → (∀ d, D d → ∀ c, c ∈ cs → Lex d c) → Fine B D l → Fine B (Plus D cs) (cs.foldl (push q) l)
  | [], l, D, _, _, _, _, h => by rw [plus_nil]; exact h
  | c :: cs, l, D, h1, h2, hs, hd, h => by
    rw [List.foldl_cons, ← plus_cons]
    obtain ⟨hs1, hs2⟩ := List.pairwise_cons.mp hs
    refine fold_fine (fun z x hx => h1 z x (List.mem_cons_of_mem _ hx)) (fun z x hx => h2 z x (List.mem_cons_of_mem _ hx)) hs2 (fun d hd' x hx => ?_) ?_
    · rcases hd' with hd' | rfl
      · exact hd d hd' x (List.mem_cons_of_mem _ hx)
      · exact hs1 x hx
    · have hc : c ∈ c :: cs := List.mem_cons_self ..
      match l, h with
      | b :: r, h =>
        have lx : ∀ z, (b :: r).getLast? = some z → D z := fun z hz => h.mem z (List.mem_of_getLast? hz)
        obtain ⟨s, e, k1, k2⟩ := push_chain (q := q) (fun d hx => hd d hx c hc) h.chain h.mem (fun z hz e => (h1 z c hc (h.bot z hz) e).1) (fun z hz e => h2 z c hc (h.bot z hz) (hd z (lx z hz) c hc) e)
          (fun d hx hlt => absurd (h.top b r rfl d hx) (by grind))
        refine ⟨by rw [e]; exact k1, fun v hv => ?_, fun b' r' e' d hx => ?_, fun z hz => ?_⟩
        · rw [e] at hv
          rcases List.mem_cons.mp hv with hv | hv
          · exact .inr hv
          · exact .inl (k2 v hv)
        · rw [e] at e'
          cases e'
          rcases hx with hx | rfl
          · rcases hd d hx c hc with hx | hx <;> grind
          · exact Rat.le_refl
        · rcases push_last hz with hz | ⟨rfl, hz⟩
          · exact h.bot z hz
          · rcases hz with hz | ⟨y, hy, hz⟩
            · cases hz
            · exact (h1 y z hc (h.bot y hy) hz).2
      | [], h => exact h.chain.elim
/-- the same from the first on: at the end nothing has more for the first -/
def FC (D : Pt → Prop) : List Pt → Prop
  | [] => False
  | [b] => ∀ d, D d → d.1 ≤ b.1
  | a :: b :: r => a.1 < b.1 ∧ b.2 ≤ a.2 ∧ (∀ d, D d → left a b d ≤ 0) ∧ FC D (b :: r)
theorem fc_of {D : Pt → Prop} : ∀ {b : Pt} {r acc : List Pt}, Chain D (b :: r) → FC D (b :: acc) → FC D ((b :: r).reverse ++ acc) ∧ ∀ a s, (b :: r).reverse ++ acc = a :: s → ∀ d, D d → d.2 ≤ a.2
  | b, [], acc, h, hf => ⟨hf, fun a s e d hd => by
      simp at e
      rw [← e.1]; exact h d hd⟩
  | b, a :: r, acc, ⟨h1, h2, h3, h4⟩, hf => by
    have := fc_of (acc := b :: acc) h4 ⟨h1, h2, h3, hf⟩
    rw [List.reverse_cons, List.append_assoc]
    exact this
theorem Fine.fc {B D : Pt → Prop} {l : List Pt} (h : Fine B D l) : FC D l.reverse ∧ (∀ a s, l.reverse = a :: s → ∀ d, D d → d.2 ≤ a.2) ∧ ∀ v, v ∈ l.reverse → D v := by
  match l, h with
  | b :: r, h =>
    have := fc_of (acc := []) h.chain (h.top b r rfl)
    rw [List.append_nil] at this
    exact ⟨this.1, this.2, fun v hv => h.mem v (List.mem_reverse.mp hv)⟩
  | [], h => exact h.chain.elim
/-- along the edge to where the product is greatest -/
def walk : List Pt → Pt
  | [] => (0, 0)
  | [a] => a
  | a :: b :: r =>
    if (b.1 - a.1) * a.2 ≤ (a.2 - b.2) * a.1 then a
    else if (b.1 - a.1) * b.2 < (a.2 - b.2) * b.1 then (((a.2 - b.2) * a.1 + (b.1 - a.1) * a.2) / (2 * (a.2 - b.2)), ((a.2 - b.2) * a.1 + (b.1 - a.1) * a.2) / (2 * (b.1 - a.1)))
    else walk (b :: r)
structure Cert (D : Pt → Prop) (z : Pt) : Prop where
  p1 : 0 < z.1
  p2 : 0 < z.2
  up : ∀ d, D d → d.1 * z.2 + d.2 * z.1 ≤ 2 * (z.1 * z.2)
  dual : ∀ m n B : Rat, 0 ≤ m → 0 ≤ n → (∀ d, D d → m * d.1 + n * d.2 ≤ B) → m * z.1 + n * z.2 ≤ B
theorem le_pos {x y c : Rat} (hc : 0 < c) (h : x * c ≤ y * c) : x ≤ y := Rat.le_of_mul_le_mul_right h hc
theorem cert_right {a b d : Pt} (h1 : a.1 < b.1) (hl : left a b d ≤ 0) (hx : a.1 ≤ d.1) (ha : 0 ≤ a.1) (hs : (b.1 - a.1) * a.2 ≤ (a.2 - b.2) * a.1) : d.1 * a.2 + d.2 * a.1 ≤ 2 * (a.1 * a.2) := by
  have e : left a b d = (b.1 - a.1) * (d.2 - a.2) - (b.2 - a.2) * (d.1 - a.1) := rfl
  have p1 := mul_np hl ha
  have p2 := mul_np (show (b.1 - a.1) * a.2 - (a.2 - b.2) * a.1 ≤ 0 by grind) (show 0 ≤ d.1 - a.1 by grind)
  have q : ((d.1 - a.1) * a.2 + (d.2 - a.2) * a.1) * (b.1 - a.1) = left a b d * a.1 + ((b.1 - a.1) * a.2 - (a.2 - b.2) * a.1) * (d.1 - a.1) := by rw [e]; grind
  have := np_of (x := (d.1 - a.1) * a.2 + (d.2 - a.2) * a.1) (show 0 < b.1 - a.1 by grind) (by grind)
  grind
theorem cert_left {a b d : Pt} (h1 : a.1 < b.1) (hl : left a b d ≤ 0) (hx : d.1 ≤ b.1) (hb : 0 ≤ b.1) (hs : (a.2 - b.2) * b.1 ≤ (b.1 - a.1) * b.2) : d.1 * b.2 + d.2 * b.1 ≤ 2 * (b.1 * b.2) := by
  have e : left a b d = (b.1 - a.1) * (d.2 - b.2) - (b.2 - a.2) * (d.1 - b.1) := by unfold left; grind
  have p1 := mul_np hl hb
  have p2 := mul_nn (show (a.2 - b.2) * b.1 - (b.1 - a.1) * b.2 ≤ 0 by grind) (show d.1 - b.1 ≤ 0 by grind)
  have q : ((d.1 - b.1) * b.2 + (d.2 - b.2) * b.1) * (b.1 - a.1) = left a b d * b.1 - ((a.2 - b.2) * b.1 - (b.1 - a.1) * b.2) * (d.1 - b.1) := by rw [e]; grind
  have := np_of (x := (d.1 - b.1) * b.2 + (d.2 - b.2) * b.1) (show 0 < b.1 - a.1 by grind) (by grind)
  grind
theorem div_eq_of {a b c : Rat} (hb : b ≠ 0) (h : a = c * b) : a / b = c := by grind
theorem walk_mid {D : Pt → Prop} {a b : Pt} (h1 : a.1 < b.1) (hl : ∀ d, D d → left a b d ≤ 0) (ha : 0 ≤ a.1) (ha2 : 0 < a.2) (da : D a) (db : D b)
    (n1 : (a.2 - b.2) * a.1 < (b.1 - a.1) * a.2) (n2 : (b.1 - a.1) * b.2 < (a.2 - b.2) * b.1) (h2 : b.2 ≤ a.2) (hb2 : 0 ≤ b.2) :
    Cert D (((a.2 - b.2) * a.1 + (b.1 - a.1) * a.2) / (2 * (a.2 - b.2)), ((a.2 - b.2) * a.1 + (b.1 - a.1) * a.2) / (2 * (b.1 - a.1))) := by
  have hrun : 0 < b.1 - a.1 := by grind
  have hfall : 0 < a.2 - b.2 := by
    rcases (show a.2 - b.2 = 0 ∨ 0 < a.2 - b.2 by grind) with e | e
    · have := Rat.mul_nonneg (Rat.le_of_lt hrun) hb2
      grind
    · exact e
  generalize hF : a.2 - b.2 = F at *
  generalize hR : b.1 - a.1 = R at *
  have hreach : 0 < F * a.1 + R * a.2 := by
    have := Rat.mul_nonneg (Rat.le_of_lt hfall) ha
    have := Rat.mul_pos hrun ha2
    grind
  have hz1 : (F * a.1 + R * a.2) / (2 * F) * (2 * F) = F * a.1 + R * a.2 := Rat.div_mul_cancel (by grind)
  have hz2 : (F * a.1 + R * a.2) / (2 * R) * (2 * R) = F * a.1 + R * a.2 := Rat.div_mul_cancel (by grind)
  generalize hz : (F * a.1 + R * a.2) / (2 * F) = z1 at *
  generalize hw : (F * a.1 + R * a.2) / (2 * R) = z2 at *
  have pz1 : 0 < z1 := by
    have : 0 * (2 * F) < z1 * (2 * F) := by grind
    exact Rat.lt_of_mul_lt_mul_right this (by grind)
  have pz2 : 0 < z2 := by
    have : 0 * (2 * R) < z2 * (2 * R) := by grind
    exact Rat.lt_of_mul_lt_mul_right this (by grind)
  have hFR : F * z1 = R * z2 := by grind
  refine ⟨pz1, pz2, fun d hd => ?_, fun m n B hm hn hB => ?_⟩
  · have e : left a b d = R * (d.2 - a.2) + F * (d.1 - a.1) := by unfold left; grind
    have k := hl d hd
    have k2 : F * d.1 + R * d.2 ≤ F * z1 + R * z2 := by grind
    have k3 := mul_np (show F * d.1 + R * d.2 - (F * z1 + R * z2) ≤ 0 by grind) (Rat.le_of_lt pz2)
    have k4 : (d.1 * z2 + d.2 * z1 - 2 * (z1 * z2)) * F = (F * d.1 + R * d.2 - (F * z1 + R * z2)) * z2 := by
      have : d.2 * z1 * F = d.2 * z2 * R := by grind
      have : z1 * z2 * F = z2 * z2 * R := by grind
      grind
    have := np_of (x := d.1 * z2 + d.2 * z1 - 2 * (z1 * z2)) hfall (by grind)
    grind
  · have A := hB a da
    have C := hB b db
    -- z lies between a and b
    have s1 : a.1 < z1 := by
      have : a.1 * (2 * F) < z1 * (2 * F) := by grind
      exact Rat.lt_of_mul_lt_mul_right this (by grind)
    have s2 : z1 < b.1 := by
      have : z1 * (2 * F) < b.1 * (2 * F) := by
        have f1 : R * a.2 = R * b.2 + R * F := by rw [← hF]; grind
        have f2 : F * b.1 = F * a.1 + F * R := by rw [← hR]; grind
        clear hl hB hz hw
        grind
      exact Rat.lt_of_mul_lt_mul_right this (by grind)
    have t : z2 * R = a.2 * R - F * (z1 - a.1) := by grind
    have u1 := mul_np (show m * a.1 + n * a.2 - B ≤ 0 by grind) (show 0 ≤ b.1 - z1 by grind)
    have u2 := mul_np (show m * b.1 + n * b.2 - B ≤ 0 by grind) (show 0 ≤ z1 - a.1 by grind)
    have v : (m * z1 + n * z2 - B) * R = (m * a.1 + n * a.2 - B) * (b.1 - z1) + (m * b.1 + n * b.2 - B) * (z1 - a.1) := by
      have : n * z2 * R = n * (a.2 * R - F * (z1 - a.1)) := by rw [← t]; grind
      grind
    have := np_of (x := m * z1 + n * z2 - B) hrun (by grind)
    grind
theorem walk_cert {D : Pt → Prop} : ∀ {a : Pt} {r : List Pt}, FC D (a :: r) → (∀ v, v ∈ a :: r → D v) → (∀ v, D v → 0 ≤ v.1 ∧ 0 ≤ v.2) → (∃ v, D v ∧ 0 < v.1) → 0 < a.2 →
    (∀ d, D d → d.1 ≤ a.1 → d.1 * a.2 + d.2 * a.1 ≤ 2 * (a.1 * a.2)) → Cert D (walk (a :: r))
  | a, [], h, hm, hn, hp, ha, hl => by
    have da := hm a (List.mem_cons_self ..)
    obtain ⟨v, hv, hv1⟩ := hp
    have h0 : 0 < a.1 := by have := h v hv; grind
    exact ⟨h0, ha, fun d hd => hl d hd (h d hd), fun m n B _ _ hB => hB a da⟩
  | a, b :: r, ⟨h1, h2, h3, h4⟩, hm, hn, hp, ha, hl => by
    have da := hm a (List.mem_cons_self ..)
    have db := hm b (List.mem_cons_of_mem _ (List.mem_cons_self ..))
    have na := hn a da
    have nb := hn b db
    unfold walk
    by_cases e : (b.1 - a.1) * a.2 ≤ (a.2 - b.2) * a.1
    · rw [if_pos e]
      have h0 : 0 < a.1 := by
        rcases (show a.1 = 0 ∨ 0 < a.1 by grind) with z | z
        · have := Rat.mul_pos (show 0 < b.1 - a.1 by grind) ha
          rw [z] at e this
          rw [Rat.mul_zero] at e
          exact absurd e (Rat.not_le.mpr this)
        · exact z
      exact ⟨h0, ha, fun d hd => by
        by_cases hx : d.1 ≤ a.1
        · exact hl d hd hx
        · exact cert_right h1 (h3 d hd) (by grind) na.1 e, fun m n B _ _ hB => hB a da⟩
    · rw [if_neg e]
      by_cases e2 : (b.1 - a.1) * b.2 < (a.2 - b.2) * b.1
      · rw [if_pos e2]
        exact walk_mid h1 h3 na.1 ha da db (by grind) e2 h2 nb.2
      · rw [if_neg e2]
        have e3 : (a.2 - b.2) * b.1 ≤ (b.1 - a.1) * b.2 := by grind
        refine walk_cert h4 (fun v hv => hm v (List.mem_cons_of_mem _ hv)) hn hp ?_ fun d hd hx => cert_left h1 (h3 d hd) hx nb.1 e3
        rcases (show b.2 = 0 ∨ 0 < b.2 by grind) with z | z
        · have := Rat.mul_pos (show 0 < a.2 - b.2 by grind) (show 0 < b.1 by grind)
          rw [z] at e3 this
          rw [Rat.mul_zero] at e3
          exact absurd e3 (Rat.not_le.mpr this)
        · exact z
/-- the greatest product is at one place alone -/
theorem cert_eq {z w : Pt} (h1 : 0 < z.1) (h2 : 0 < z.2) (w1 : 0 ≤ w.1) (w2 : 0 ≤ w.2) (h : w.1 * z.2 + w.2 * z.1 ≤ 2 * (z.1 * z.2)) : w.1 * w.2 ≤ z.1 * z.2 ∧ (z.1 * z.2 ≤ w.1 * w.2 → w = z) := by
  have hp := Rat.mul_pos h1 h2
  have sq : 0 ≤ (w.1 * z.2 - w.2 * z.1) * (w.1 * z.2 - w.2 * z.1) := by
    rcases (show 0 ≤ w.1 * z.2 - w.2 * z.1 ∨ w.1 * z.2 - w.2 * z.1 ≤ 0 by grind) with e | e
    · exact Rat.mul_nonneg e e
    · exact mul_nn e e
  have n1 := Rat.mul_nonneg w1 (Rat.le_of_lt h2)
  have n2 := Rat.mul_nonneg w2 (Rat.le_of_lt h1)
  have big : (w.1 * z.2 + w.2 * z.1) * (w.1 * z.2 + w.2 * z.1) ≤ (2 * (z.1 * z.2)) * (2 * (z.1 * z.2)) := by
    have k1 := Rat.mul_le_mul_of_nonneg_left h (show 0 ≤ w.1 * z.2 + w.2 * z.1 by grind)
    have k2 := Rat.mul_le_mul_of_nonneg_right h (show 0 ≤ 2 * (z.1 * z.2) by grind)
    grind
  have id1 : (w.1 * z.2 + w.2 * z.1) * (w.1 * z.2 + w.2 * z.1) = (w.1 * z.2 - w.2 * z.1) * (w.1 * z.2 - w.2 * z.1) + 4 * (w.1 * w.2 * (z.1 * z.2)) := by grind
  refine ⟨?_, fun hge => ?_⟩
  · exact Rat.le_of_mul_le_mul_right (c := z.1 * z.2) (by grind) hp
  · have k := Rat.mul_le_mul_of_nonneg_right hge (Rat.le_of_lt hp)
    have z0 : (w.1 * z.2 - w.2 * z.1) * (w.1 * z.2 - w.2 * z.1) = 0 := by grind
    have z1 : w.1 * z.2 - w.2 * z.1 = 0 := by
      rcases Rat.mul_eq_zero.mp z0 with e | e <;> exact e
    have e1 : w.1 * z.2 ≤ z.1 * z.2 := by grind
    have e2 : w.2 * z.1 ≤ z.2 * z.1 := by grind
    have f1 := Rat.le_of_mul_le_mul_right e1 h2
    have f2 := Rat.le_of_mul_le_mul_right e2 h1
    have g1 : z.1 ≤ w.1 := by
      have := Rat.mul_le_mul_of_nonneg_left f2 w1
      exact Rat.le_of_mul_le_mul_right (c := z.2) (by grind) h2
    have g2 : z.2 ≤ w.2 := by
      have := Rat.mul_le_mul_of_nonneg_left f1 w2
      exact Rat.le_of_mul_le_mul_right (c := z.1) (by grind) h1
    exact Prod.ext (by grind) (by grind)
end My
set_option linter.all false
namespace My
open Ql88 (left rim parts along peak nashOf most most1 most2 onto ontoFrom)
theorem ontoFrom_push (c : Pt) : ∀ (n : Nat) (l : List Pt), l ≠ [] → l.length ≤ n → ontoFrom n l c = push (fun _ _ => false) l c
  | 0, [], h, _ => absurd rfl h
  | 0, _ :: _, _, h => absurd h (by simp)
  | n + 1, [], h, _ => absurd rfl h
  | n + 1, [b], _, _ => by simp [ontoFrom, push]
  | n + 1, b :: a :: r, _, h => by
    unfold ontoFrom push
    rw [ontoFrom_push c n (a :: r) (by simp) (by simpa using h)]
theorem push_ne (q : Pt → Pt → Bool) (c : Pt) : ∀ l : List Pt, push q l c ≠ []
  | [] => by simp [push]
  | [b] => by unfold push; split <;> simp
  | b :: a :: r => by
    unfold push
    split
    · exact push_ne q c (a :: r)
    · simp
theorem fold_onto : ∀ (cs l : List Pt), l ≠ [] → cs.foldl onto l = cs.foldl (push fun _ _ => false) l
  | [], _, _ => rfl
  | c :: cs, l, h => by
    rw [List.foldl_cons, List.foldl_cons]
    have e : onto l c = push (fun _ _ => false) l c := ontoFrom_push c _ l h (Nat.le_refl _)
    rw [e]
    exact fold_onto cs _ (push_ne _ _ _)
theorem most_ge : ∀ {l : List Rat} {x : Rat}, x ∈ l → x ≤ most l
  | y :: l, x, h => by
    have e : most (y :: l) = if most l < y then y else most l := rfl
    rw [e]
    rcases List.mem_cons.mp h with rfl | h
    · split <;> grind
    · have := most_ge h
      split <;> grind
theorem most_mem : ∀ (l : List Rat), most l = 0 ∨ most l ∈ l
  | [] => .inl rfl
  | y :: l => by
    have e : most (y :: l) = if most l < y then y else most l := rfl
    rw [e]
    split
    · exact .inr (List.mem_cons_self ..)
    · rcases most_mem l with h | h
      · exact .inl h
      · exact .inr (List.mem_cons_of_mem _ h)
theorem most_nonneg : ∀ (l : List Rat), 0 ≤ most l
  | [] => Rat.le_refl
  | y :: l => by
    have e : most (y :: l) = if most l < y then y else most l := rfl
    rw [e]
    have := most_nonneg l
    split <;> grind
structure Good (P : List Pt) : Prop where
  nn : ∀ z, z ∈ P → 0 ≤ z.1 ∧ 0 ≤ z.2
  g1 : ∃ z, z ∈ P ∧ 0 < z.1
  g2 : ∃ z, z ∈ P ∧ 0 < z.2
theorem most1_ge {P : List Pt} {z : Pt} (h : z ∈ P) : z.1 ≤ most1 P := most_ge (List.mem_map.mpr ⟨z, h, rfl⟩)
theorem most2_ge {P : List Pt} {z : Pt} (h : z ∈ P) : z.2 ≤ most2 P := most_ge (List.mem_map.mpr ⟨z, h, rfl⟩)
theorem most2_at {P : List Pt} (g : Good P) : ∃ z, z ∈ P ∧ z.2 = most2 P := by
  obtain ⟨y, hy, hp⟩ := g.g2
  rcases most_mem (P.map fun z => z.2) with h | h
  · have := most2_ge hy
    have e : most2 P = 0 := h
    grind
  · obtain ⟨z, hz, e⟩ := List.mem_map.mp h
    exact ⟨z, hz, e⟩
theorem most1_at {P : List Pt} (g : Good P) : ∃ z, z ∈ P ∧ z.1 = most1 P := by
  obtain ⟨y, hy, hp⟩ := g.g1
  rcases most_mem (P.map fun z => z.1) with h | h
  · have := most1_ge hy
    have e : most1 P = 0 := h
    grind
  · obtain ⟨z, hz, e⟩ := List.mem_map.mp h
    exact ⟨z, hz, e⟩
def leB (a b : Pt) : Bool := decide (a.1 < b.1) || (a.1 == b.1 && decide (a.2 ≤ b.2))
theorem leB_iff (a b : Pt) : leB a b = true ↔ Lex a b := by
  unfold leB Lex
  simp
theorem leB_trans (a b c : Pt) (h1 : leB a b = true) (h2 : leB b c = true) : leB a c = true := by
  rw [leB_iff] at *
  unfold Lex at *
  grind
theorem leB_total (a b : Pt) : (leB a b || leB b a) = true := by
  rw [Bool.or_eq_true, leB_iff, leB_iff]
  unfold Lex
  grind
/-- the corners, and where the second has most and the first nothing -/
def Dom (P : List Pt) : Pt → Prop := fun d => d = (0, most2 P) ∨ d ∈ P
theorem rim_fine {P : List Pt} (g : Good P) : ∃ l, rim P = l.reverse ∧ Fine (fun z => z = (0, most2 P)) (Dom P) l := by
  refine ⟨_, rfl, ?_⟩
  rw [fold_onto _ _ (by simp)]
  generalize hs : ((P.filter fun z => decide (0 < z.1)).mergeSort fun a b => decide (a.1 < b.1) || (a.1 == b.1 && decide (a.2 ≤ b.2))) = cs
  have hs' : (P.filter fun z => decide (0 < z.1)).mergeSort leB = cs := hs
  have hperm : cs.Perm (P.filter fun z => decide (0 < z.1)) := by rw [← hs']; exact List.mergeSort_perm _ _
  have hsort : cs.Pairwise Lex := by
    have := List.pairwise_mergeSort leB_trans leB_total (P.filter fun z => decide (0 < z.1))
    rw [hs'] at this
    exact this.imp fun h => (leB_iff _ _).mp h
  have hmem : ∀ c, c ∈ cs ↔ c ∈ P ∧ 0 < c.1 := fun c => by rw [hperm.mem_iff, List.mem_filter]; simp
  have e : Dom P = Plus (fun d => d = (0, most2 P) ∨ (d ∈ P ∧ ¬ 0 < d.1)) cs := by
    funext d
    unfold Dom Plus
    rw [hmem]
    by_cases h0 : 0 < d.1 <;> by_cases h1 : d ∈ P <;> simp [h0, h1]
  rw [e]
  refine fold_fine (fun z c hc hz hq => by simp at hq) (fun z c hc hz _ _ => ?_) hsort (fun d hd c hc => ?_) ⟨fun d hd => ?_, fun v hv => ?_, fun b r eb d hd => ?_, fun z hz => ?_⟩
  · subst hz
    exact ⟨most2_ge ((hmem c).mp hc).1, ((hmem c).mp hc).2⟩
  · have := ((hmem c).mp hc).2
    rcases hd with rfl | ⟨hd, h0⟩
    · exact .inl this
    · exact .inl (by grind)
  · rcases hd with rfl | ⟨hd, h0⟩
    · exact Rat.le_refl
    · exact most2_ge hd
  · simp at hv
    exact .inl hv
  · cases eb
    rcases hd with rfl | ⟨hd, h0⟩
    · exact Rat.le_refl
    · exact Rat.not_lt.mp h0
  · simp at hz
    exact hz.symm
theorem fine_cert {B D : Pt → Prop} {l : List Pt} (h : Fine B D l) (nn : ∀ v, D v → 0 ≤ v.1 ∧ 0 ≤ v.2) (g1 : ∃ v, D v ∧ 0 < v.1) (g2 : ∃ v, D v ∧ 0 < v.2) : Cert D (walk l.reverse) := by
  obtain ⟨h1, h2, h3⟩ := h.fc
  match hl : l.reverse, h1, h2, h3 with
  | a :: r, h1, h2, h3 =>
    have hf := h2 a r rfl
    refine walk_cert h1 h3 nn g1 ?_ fun d hd hx => ?_
    · obtain ⟨v, hv, hp⟩ := g2
      have := hf v hv
      grind
    · have na := nn a (h3 a (List.mem_cons_self ..))
      have k1 := mul_np (show d.1 - a.1 ≤ 0 by grind) na.2
      have k2 := mul_np (show d.2 - a.2 ≤ 0 by have := hf d hd; grind) na.1
      grind
  | [], h1, _, _ => exact h1.elim
theorem dom_nn {P : List Pt} (g : Good P) : ∀ v, Dom P v → 0 ≤ v.1 ∧ 0 ≤ v.2 := fun v hv => by
  rcases hv with rfl | hv
  · exact ⟨Rat.le_refl, most_nonneg _⟩
  · exact g.nn v hv
theorem rim_cert {P : List Pt} (g : Good P) : Cert (Dom P) (walk (rim P)) := by
  obtain ⟨l, e, h⟩ := rim_fine g
  rw [e]
  obtain ⟨v, hv, h1⟩ := g.g1
  obtain ⟨w, hw, h2⟩ := g.g2
  exact fine_cert h (dom_nn g) ⟨v, .inr hv, h1⟩ ⟨w, .inr hw, h2⟩
/-- the value of a part -/
def val (s : Pt × Pt) : Pt := along s (peak s)
theorem peak_range (s : Pt × Pt) : 0 ≤ peak s ∧ peak s ≤ 1 := by
  unfold peak
  dsimp only
  split
  · exact ⟨by decide, by decide⟩
  · split
    · exact ⟨by decide, by decide⟩
    · split
      · exact ⟨by decide, by decide⟩
      · split
        · exact ⟨by decide, by decide⟩
        · rename_i h1 h2
          exact ⟨Rat.not_lt.mp h1, Rat.not_lt.mp h2⟩
theorem mix {x y t B : Rat} (h0 : 0 ≤ t) (h1 : t ≤ 1) (hx : x ≤ B) (hy : y ≤ B) : x + t * (y - x) ≤ B := by
  have k1 := mul_np (show x - B ≤ 0 by grind) (show 0 ≤ 1 - t by grind)
  have k2 := mul_np (show y - B ≤ 0 by grind) h0
  grind
theorem mix' {x y t B : Rat} (h0 : 0 ≤ t) (h1 : t ≤ 1) (hx : B ≤ x) (hy : B ≤ y) : B ≤ x + t * (y - x) := by
  have k1 := mul_np (show B - x ≤ 0 by grind) (show 0 ≤ 1 - t by grind)
  have k2 := mul_np (show B - y ≤ 0 by grind) h0
  grind
theorem val_in {s : Pt × Pt} {m n B : Rat} (a1 : 0 ≤ s.1.1) (a2 : 0 ≤ s.1.2) (b1 : 0 ≤ s.2.1) (b2 : 0 ≤ s.2.2) (h1 : s.1.1 * m + s.1.2 * n ≤ B) (h2 : s.2.1 * m + s.2.2 * n ≤ B) :
    0 ≤ (val s).1 ∧ 0 ≤ (val s).2 ∧ (val s).1 * m + (val s).2 * n ≤ B := by
  obtain ⟨p0, p1⟩ := peak_range s
  refine ⟨mix' p0 p1 a1 b1, mix' p0 p1 a2 b2, ?_⟩
  have := mix p0 p1 h1 h2
  unfold val along
  dsimp only
  grind
theorem mem_zip_drop {α : Type} {s : α × α} : ∀ {l : List α}, s ∈ l.zip (l.drop 1) → s.1 ∈ l ∧ s.2 ∈ l := fun {l} h => by
  have h' : (s.1, s.2) ∈ l.zip (l.drop 1) := h
  exact ⟨(List.of_mem_zip h').1, List.mem_of_mem_drop (List.of_mem_zip h').2⟩
theorem peak_stop {a b : Pt} (h1 : a.1 < b.1) (ha : 0 < a.2) (h0 : 0 ≤ a.1) (e : (b.1 - a.1) * a.2 ≤ (a.2 - b.2) * a.1) : peak (a, b) = 0 := by
  unfold peak
  dsimp only
  have hr := Rat.mul_pos (show 0 < b.1 - a.1 by grind) ha
  have hF : 0 < a.2 - b.2 := by
    rcases (show 0 < a.2 - b.2 ∨ a.2 - b.2 ≤ 0 by grind) with z | z
    · exact z
    · have := mul_np z h0
      grind
  rw [if_neg (by grind), if_neg (by grind)]
  have hd : 2 * (b.1 - a.1) * (b.2 - a.2) < 0 := by
    have := Rat.mul_pos (show 0 < b.1 - a.1 by grind) hF
    grind
  generalize hD : 2 * (b.1 - a.1) * (b.2 - a.2) = Dn at hd ⊢
  generalize hN : -(a.1 * (b.2 - a.2) + a.2 * (b.1 - a.1)) = Nn
  have hNn : 0 ≤ Nn := by grind
  have ht : Nn / Dn * Dn = Nn := Rat.div_mul_cancel (by grind)
  have hle : Nn / Dn ≤ 0 := by
    rcases (show Nn / Dn ≤ 0 ∨ 0 < Nn / Dn by grind) with z | z
    · exact z
    · have := Rat.mul_pos z (show 0 < -Dn by grind)
      grind
  split
  · rfl
  · rename_i hn
    have : Nn / Dn = 0 := Rat.le_antisymm hle (Rat.not_lt.mp hn)
    rw [this, if_neg (by decide)]
theorem peak_mid {a b : Pt} (h1 : a.1 < b.1) (ha2 : 0 < a.2) (ha : 0 ≤ a.1) (hb2 : 0 ≤ b.2) (n1 : (a.2 - b.2) * a.1 < (b.1 - a.1) * a.2) (n2 : (b.1 - a.1) * b.2 < (a.2 - b.2) * b.1) (h2 : b.2 ≤ a.2) :
    val (a, b) = (((a.2 - b.2) * a.1 + (b.1 - a.1) * a.2) / (2 * (a.2 - b.2)), ((a.2 - b.2) * a.1 + (b.1 - a.1) * a.2) / (2 * (b.1 - a.1))) := by
  have hrun : 0 < b.1 - a.1 := by grind
  have hfall : 0 < a.2 - b.2 := by
    rcases (show a.2 - b.2 = 0 ∨ 0 < a.2 - b.2 by grind) with e | e
    · have := Rat.mul_nonneg (Rat.le_of_lt hrun) hb2
      rw [e, Rat.zero_mul] at n2
      exact absurd this (Rat.not_le.mpr n2)
    · exact e
  have hFR := Rat.mul_pos hrun hfall
  unfold val along peak
  dsimp only
  rw [if_neg (by grind), if_neg (by grind)]
  have et : -(a.1 * (b.2 - a.2) + a.2 * (b.1 - a.1)) / (2 * (b.1 - a.1) * (b.2 - a.2)) = ((b.1 - a.1) * a.2 - (a.2 - b.2) * a.1) / (2 * ((b.1 - a.1) * (a.2 - b.2))) := by
    have q1 : 2 * (b.1 - a.1) * (b.2 - a.2) = -(2 * ((b.1 - a.1) * (a.2 - b.2))) := by grind
    have q2 : -(a.1 * (b.2 - a.2) + a.2 * (b.1 - a.1)) = -((b.1 - a.1) * a.2 - (a.2 - b.2) * a.1) := by grind
    rw [q1, q2]
    have q3 : ((b.1 - a.1) * a.2 - (a.2 - b.2) * a.1) / (2 * ((b.1 - a.1) * (a.2 - b.2))) * (2 * ((b.1 - a.1) * (a.2 - b.2))) = (b.1 - a.1) * a.2 - (a.2 - b.2) * a.1 := Rat.div_mul_cancel (by grind)
    generalize ((b.1 - a.1) * a.2 - (a.2 - b.2) * a.1) / (2 * ((b.1 - a.1) * (a.2 - b.2))) = t at *
    refine div_eq_of (by grind) ?_
    rw [Rat.mul_neg, q3]
  rw [et]
  have f1 : (b.1 - a.1) * a.2 = (b.1 - a.1) * b.2 + (b.1 - a.1) * (a.2 - b.2) := by grind
  have f2 : (a.2 - b.2) * b.1 = (a.2 - b.2) * a.1 + (a.2 - b.2) * (b.1 - a.1) := by grind
  generalize hF : a.2 - b.2 = F at *
  generalize hR : b.1 - a.1 = R at *
  have hm : (R * a.2 - F * a.1) / (2 * (R * F)) * (2 * (R * F)) = R * a.2 - F * a.1 := Rat.div_mul_cancel (by grind)
  generalize ht : (R * a.2 - F * a.1) / (2 * (R * F)) = t at *
  have t0 : ¬ t < 0 := fun z => by
    have := Rat.mul_pos (show 0 < -t by grind) hFR
    grind
  have t1 : ¬ 1 < t := fun z => by
    have := Rat.mul_pos (show 0 < t - 1 by grind) hFR
    grind
  rw [if_neg t0, if_neg t1]
  have hba : b.2 - a.2 = -F := by grind
  rw [hba]
  have g1 : (F * a.1 + R * a.2) / (2 * F) = a.1 + t * R := by
    refine div_eq_of (by grind) ?_
    have : (a.1 + t * R) * (2 * F) = 2 * F * a.1 + t * (2 * (R * F)) := by grind
    rw [this, hm]; grind
  have g2 : (F * a.1 + R * a.2) / (2 * R) = a.2 + t * -F := by
    refine div_eq_of (by grind) ?_
    have : (a.2 + t * -F) * (2 * R) = 2 * R * a.2 - t * (2 * (R * F)) := by grind
    rw [this, hm]; grind
  rw [g1, g2]
theorem along_zero (s : Pt × Pt) : along s 0 = s.1 := by
  unfold along
  rw [Rat.zero_mul, Rat.zero_mul, Rat.add_zero, Rat.add_zero]
theorem walk_val {D : Pt → Prop} {e : Pt} : ∀ {a : Pt} {r : List Pt}, FC D (a :: r) → (∀ v, v ∈ a :: r → D v) → (∀ v, D v → 0 ≤ v.1 ∧ 0 ≤ v.2) → (∀ z, (a :: r).getLast? = some z → z.1 = e.1) → 0 < a.2 →
    ∃ s, s ∈ (a :: r ++ [e]).zip ((a :: r ++ [e]).drop 1) ∧ val s = walk (a :: r)
  | a, [], h, hm, hn, hl, ha => by
    refine ⟨(a, e), by simp, ?_⟩
    have q := hl a rfl
    have : peak (a, e) = 0 := by
      unfold peak
      dsimp only
      rw [if_pos (by grind)]
    unfold val
    rw [this, along_zero]
    rfl
  | a, b :: r, ⟨h1, h2, h3, h4⟩, hm, hn, hl, ha => by
    have na := hn a (hm a (List.mem_cons_self ..))
    have nb := hn b (hm b (List.mem_cons_of_mem _ (List.mem_cons_self ..)))
    unfold walk
    by_cases e1 : (b.1 - a.1) * a.2 ≤ (a.2 - b.2) * a.1
    · rw [if_pos e1]
      refine ⟨(a, b), by simp, ?_⟩
      unfold val
      rw [peak_stop h1 ha na.1 e1, along_zero]
    · rw [if_neg e1]
      by_cases e2 : (b.1 - a.1) * b.2 < (a.2 - b.2) * b.1
      · rw [if_pos e2]
        exact ⟨(a, b), by simp, peak_mid h1 ha na.1 nb.2 (by grind) e2 h2⟩
      · rw [if_neg e2]
        have hb : 0 < b.2 := by
          rcases (show b.2 = 0 ∨ 0 < b.2 by grind) with z | z
          · have := Rat.mul_pos (show 0 < a.2 - b.2 by grind) (show 0 < b.1 by grind)
            have e3 : (a.2 - b.2) * b.1 ≤ (b.1 - a.1) * b.2 := by grind
            rw [z] at e3 this
            rw [Rat.mul_zero] at e3
            exact absurd e3 (Rat.not_le.mpr this)
          · exact z
        obtain ⟨s, k1, k2⟩ := walk_val (e := e) h4 (fun v hv => hm v (List.mem_cons_of_mem _ hv)) hn (fun z hz => hl z (by simpa using hz)) hb
        refine ⟨s, ?_, k2⟩
        show s ∈ (a :: (b :: r ++ [e])).zip (b :: r ++ [e])
        have k1' : s ∈ (b :: r ++ [e]).zip (r ++ [e]) := k1
        show s ∈ (a :: (b :: r ++ [e])).zip (b :: (r ++ [e]))
        rw [List.zip_cons_cons]
        exact List.mem_cons_of_mem _ k1'
theorem best_fold {z : Pt} : ∀ {vs : List (Pt × Pt)} {b : Pt}, (∀ w, (w = b ∨ ∃ s, s ∈ vs ∧ w = val s) → w.1 * w.2 ≤ z.1 * z.2 ∧ (z.1 * z.2 ≤ w.1 * w.2 → w = z)) → (b = z ∨ ∃ s, s ∈ vs ∧ val s = z) →
    vs.foldl (fun (b : Pt) s => let z := along s (peak s); if b.1 * b.2 < z.1 * z.2 then z else b) b = z
  | [], b, h, hz => by
    rcases hz with hz | ⟨s, hs, _⟩
    · exact hz
    · exact nomatch hs
  | s :: vs, b, h, hz => by
    rw [List.foldl_cons]
    show vs.foldl _ (if b.1 * b.2 < (val s).1 * (val s).2 then val s else b) = z
    have hb := h b (.inl rfl)
    have hv := h (val s) (.inr ⟨s, List.mem_cons_self .., rfl⟩)
    by_cases c : b.1 * b.2 < (val s).1 * (val s).2
    · rw [if_pos c]
      refine best_fold (fun w hw => ?_) ?_
      · rcases hw with rfl | ⟨s', hs', rfl⟩
        · exact hv
        · exact h _ (.inr ⟨s', List.mem_cons_of_mem _ hs', rfl⟩)
      · rcases hz with rfl | ⟨s', hs', e⟩
        · exact absurd hv.1 (Rat.not_le.mpr c)
        · rcases List.mem_cons.mp hs' with rfl | hs'
          · exact .inl e
          · exact .inr ⟨s', hs', e⟩
    · rw [if_neg c]
      refine best_fold (fun w hw => ?_) ?_
      · rcases hw with rfl | ⟨s', hs', rfl⟩
        · exact hb
        · exact h _ (.inr ⟨s', List.mem_cons_of_mem _ hs', rfl⟩)
      · rcases hz with rfl | ⟨s', hs', e⟩
        · exact .inl rfl
        · rcases List.mem_cons.mp hs' with rfl | hs'
          · refine .inl (hb.2 ?_)
            rw [e] at c
            exact Rat.not_lt.mp c
          · exact .inr ⟨s', hs', e⟩
theorem fc_last {D : Pt → Prop} : ∀ {l : List Pt} {z : Pt}, FC D l → l.getLast? = some z → ∀ d, D d → d.1 ≤ z.1
  | [b], z, h, e => by
    simp at e
    subst e
    exact h
  | a :: b :: r, z, ⟨_, _, _, h⟩, e => fc_last h (by simpa using e)
theorem nash_walk {P : List Pt} (g : Good P) : nashOf P = walk (rim P) := by
  have C := rim_cert g
  obtain ⟨l, e, h⟩ := rim_fine g
  obtain ⟨h1, h2, h3⟩ := h.fc
  rw [← e] at h1 h2 h3
  generalize hz : walk (rim P) = z at *
  have hp := Rat.mul_pos C.p1 C.p2
  have lastP : ∀ y, (rim P).getLast? = some y → y.1 = most1 P := fun y hy => by
    obtain ⟨c, hc, ec⟩ := most1_at g
    have k := fc_last h1 hy c (.inr hc)
    rcases h3 y (List.mem_of_getLast? hy) with q | q
    · have := most_nonneg (P.map fun z => z.1)
      have e0 : y.1 = 0 := by rw [q]
      have e1 : most1 P = most (P.map fun z => z.1) := rfl
      grind
    · have := most1_ge q
      grind
  unfold nashOf
  refine best_fold (fun w hw => ?_) (.inr ?_)
  · have hw' : 0 ≤ w.1 ∧ 0 ≤ w.2 ∧ w.1 * z.2 + w.2 * z.1 ≤ 2 * (z.1 * z.2) := by
      rcases hw with rfl | ⟨s, hs, rfl⟩
      · exact ⟨Rat.le_refl, Rat.le_refl, by grind⟩
      · have hv : ∀ v, v ∈ rim P ++ [(most1 P, 0)] → 0 ≤ v.1 ∧ 0 ≤ v.2 ∧ v.1 * z.2 + v.2 * z.1 ≤ 2 * (z.1 * z.2) := fun v hv => by
          rcases List.mem_append.mp hv with hv | hv
          · exact ⟨(dom_nn g v (h3 v hv)).1, (dom_nn g v (h3 v hv)).2, C.up v (h3 v hv)⟩
          · simp at hv
            subst hv
            obtain ⟨c, hc, ec⟩ := most1_at g
            have := C.up c (.inr hc)
            have n := g.nn c hc
            have := Rat.mul_nonneg n.2 (Rat.le_of_lt C.p1)
            exact ⟨most_nonneg _, Rat.le_refl, by dsimp only; rw [← ec]; grind⟩
        obtain ⟨k1, k2⟩ := mem_zip_drop hs
        exact val_in (hv _ k1).1 (hv _ k1).2.1 (hv _ k2).1 (hv _ k2).2.1 (hv _ k1).2.2 (hv _ k2).2.2
    exact cert_eq C.p1 C.p2 hw'.1 hw'.2.1 hw'.2.2
  · match hr : rim P, h1, h2, h3 with
    | a :: r, h1, h2, h3 =>
      have ha : 0 < a.2 := by
        obtain ⟨v, hv, hp⟩ := g.g2
        have := h2 a r rfl v (.inr hv)
        grind
      obtain ⟨s, k1, k2⟩ := walk_val (e := (most1 P, 0)) h1 h3 (dom_nn g) (fun y hy => lastP y (by rw [hr]; exact hy)) ha
      refine ⟨s, ?_, ?_⟩
      · unfold parts
        rw [hr]
        exact k1
      · rw [k2, ← hr, hz]
    | [], h1, _, _ => exact h1.elim
/-- one place alone, whatever way it was found -/
theorem cert_one {P : List Pt} (g : Good P) {z : Pt} (C : Cert (fun d => d ∈ P) z) : nashOf P = z := by
  rw [nash_walk g]
  have R := rim_cert g
  generalize walk (rim P) = y at *
  have k1 : y.1 * z.2 + y.2 * z.1 ≤ 2 * (z.1 * z.2) := by
    have := R.dual z.2 z.1 (2 * (z.1 * z.2)) (Rat.le_of_lt C.p2) (Rat.le_of_lt C.p1) fun d hd => by
      rcases hd with rfl | hd
      · obtain ⟨c, hc, ec⟩ := most2_at g
        have := C.up c hc
        have n := Rat.mul_nonneg (g.nn c hc).1 (Rat.le_of_lt C.p2)
        dsimp only
        rw [← ec]
        grind
      · have := C.up d hd
        grind
    grind
  have k2 : z.1 * y.2 + z.2 * y.1 ≤ 2 * (y.1 * y.2) := by
    have := C.dual y.2 y.1 (2 * (y.1 * y.2)) (Rat.le_of_lt R.p2) (Rat.le_of_lt R.p1) fun d hd => by
      have := R.up d (.inr hd)
      grind
    grind
  have a := cert_eq C.p1 C.p2 (Rat.le_of_lt R.p1) (Rat.le_of_lt R.p2) k1
  have b := cert_eq R.p1 R.p2 (Rat.le_of_lt C.p1) (Rat.le_of_lt C.p2) k2
  exact a.2 b.1
end My
set_option linter.all false
namespace My
open Ql88 (left rim nashOf)
/-! ## the program's own steps, over whole numbers -/
abbrev Pi := Int × Int
def toR (x : Pi) : Pt := ((x.1 : Rat), (x.2 : Rat))
def within (a b c : Pi) : Bool := decide ((b.2 - a.2) * (c.1 - a.1) ≤ (c.2 - a.2) * (b.1 - a.1))
def needless : List Pi → Pi → Bool
  | [], _ => false
  | [b], c => decide (b.2 ≤ c.2)
  | b :: a :: _, c => decide (b.2 ≤ c.2) || within a b c
def popI : List Pi → Pi → List Pi
  | [], _ => []
  | b :: r, c => if needless (b :: r) c = true then popI r c else b :: r
def pushI (l : List Pi) (c : Pi) : List Pi := c :: popI l c
def frac (u l : Int) : List Int := [u / (Int.gcd u l : Nat), l / (Int.gcd u l : Nat)]
def gpI : List Pi → List Int
  | [] => []
  | [a] => frac a.1 1 ++ frac a.2 1
  | a :: b :: r =>
    if (a.2 - b.2) * a.1 + (b.1 - a.1) * a.2 ≤ 2 * (a.2 - b.2) * a.1 then frac a.1 1 ++ frac a.2 1
    else if (a.2 - b.2) * a.1 + (b.1 - a.1) * a.2 < 2 * (a.2 - b.2) * b.1 then
      frac ((a.2 - b.2) * a.1 + (b.1 - a.1) * a.2) (2 * (a.2 - b.2)) ++ frac ((a.2 - b.2) * a.1 + (b.1 - a.1) * a.2) (2 * (b.1 - a.1))
    else gpI (b :: r)
def LexI (a c : Pi) : Prop := a.1 < c.1 ∨ (a.1 = c.1 ∧ a.2 ≤ c.2)
theorem lexI_toR {a c : Pi} (h : LexI a c) : Lex (toR a) (toR c) := by
  rcases h with h | ⟨h, h'⟩
  · exact .inl (Rat.intCast_lt_intCast.mpr h)
  · exact .inr ⟨by show ((a.1 : Int) : Rat) = (c.1 : Rat); rw [h], Rat.intCast_le_intCast.mpr h'⟩
def qI (z c : Pt) : Bool := decide (z.2 ≤ c.2)
theorem within_iff (a b c : Pi) : within a b c = true ↔ 0 ≤ left (toR a) (toR b) (toR c) := by
  unfold within
  rw [decide_eq_true_iff, ← Rat.intCast_le_intCast]
  unfold left toR
  dsimp only
  push_cast
  grind
theorem left_up {a b c : Pt} (h1 : a.1 ≤ b.1) (h2 : b.1 ≤ c.1) (h3 : b.2 ≤ a.2) (h : b.2 ≤ c.2) : 0 ≤ left a b c := by
  have e : left a b c = (b.1 - a.1) * (c.2 - b.2) - (b.2 - a.2) * (c.1 - b.1) := by unfold left; grind
  have p1 := Rat.mul_nonneg (show 0 ≤ b.1 - a.1 by grind) (show 0 ≤ c.2 - b.2 by grind)
  have p2 := mul_np (show b.2 - a.2 ≤ 0 by grind) (show 0 ≤ c.1 - b.1 by grind)
  grind
theorem pop_push {D : Pt → Prop} {c : Pi} : ∀ {l : List Pi}, Chain D (l.map toR) → (∀ v, v ∈ l → (toR v).1 ≤ (toR c).1) → push qI (l.map toR) (toR c) = (pushI l c).map toR
  | [b], h, hx => by
    show push qI [toR b] (toR c) = toR c :: (popI [b] c).map toR
    unfold push popI needless
    by_cases e : b.2 ≤ c.2
    · have e' : qI (toR b) (toR c) = true := decide_eq_true (Rat.intCast_le_intCast.mpr e)
      rw [if_pos e', if_pos (decide_eq_true e)]
      rfl
    · have e' : ¬ qI (toR b) (toR c) = true := fun z => e (Rat.intCast_le_intCast.mp (of_decide_eq_true z))
      rw [if_neg e', if_neg (by simpa using e)]
      rfl
  | b :: a :: r, ⟨h1, h2, h3, h4⟩, hx => by
    show push qI (toR b :: toR a :: r.map toR) (toR c) = toR c :: (popI (b :: a :: r) c).map toR
    have hb := hx b (List.mem_cons_self ..)
    unfold push popI
    by_cases e : 0 ≤ left (toR a) (toR b) (toR c)
    · have e' : needless (b :: a :: r) c = true := by
        show (decide (b.2 ≤ c.2) || within a b c) = true
        rw [(within_iff a b c).mpr e, Bool.or_true]
      rw [if_pos e, if_pos e']
      exact pop_push (l := a :: r) h4 fun v hv => hx v (List.mem_cons_of_mem _ hv)
    · have e' : ¬ needless (b :: a :: r) c = true := by
        show ¬ (decide (b.2 ≤ c.2) || within a b c) = true
        rw [Bool.or_eq_true, within_iff]
        rintro (z | z)
        · exact e (left_up (Rat.le_of_lt h1) hb h2 (Rat.intCast_le_intCast.mpr (of_decide_eq_true z)))
        · exact e z
      rw [if_neg e, if_neg e']
      rfl
theorem fold_step {D : Pt → Prop} {cs : List Pt} {l : List Pt} (hs : cs.Pairwise Lex) (hd : ∀ d, D d → ∀ c, c ∈ cs → Lex d c) (h : Fine (fun _ => True) D l) : Fine (fun _ => True) (Plus D cs) (cs.foldl (push qI) l) :=
  fold_fine (fun z c _ _ e => ⟨of_decide_eq_true e, trivial⟩) (fun z c _ _ lx e => by
    have e' : ¬ z.2 ≤ c.2 := of_decide_eq_false e
    rcases lx with lx | ⟨_, lx⟩
    · exact ⟨by grind, lx⟩
    · exact absurd lx e') hs hd h
theorem fold_I : ∀ {cs : List Pi} {l : List Pi} {D : Pt → Prop}, (cs.map toR).Pairwise Lex → (∀ d, D d → ∀ c, c ∈ cs.map toR → Lex d c) → Fine (fun _ => True) D (l.map toR) →
    (cs.foldl pushI l).map toR = (cs.map toR).foldl (push qI) (l.map toR)
  | [], _, _, _, _, _ => rfl
  | c :: cs, l, D, hs, hd, h => by
    rw [List.map_cons] at hs hd
    rw [List.map_cons, List.foldl_cons, List.foldl_cons]
    obtain ⟨hs1, hs2⟩ := List.pairwise_cons.mp hs
    have e := pop_push (c := c) h.chain fun v hv => by
      rcases hd _ (h.mem _ (List.mem_map.mpr ⟨v, hv, rfl⟩)) (toR c) (List.mem_cons_self ..) with q | q
      · exact Rat.le_of_lt q
      · rw [q.1]; exact Rat.le_refl
    have F := fold_step (D := D) (cs := [toR c]) (l := l.map toR) (by simp) (fun d hx x hxc => by
      simp at hxc
      rw [hxc]
      exact hd d hx _ (List.mem_cons_self ..)) h
    rw [List.foldl_cons, List.foldl_nil, e] at F
    rw [e]
    refine fold_I (D := Plus D [toR c]) hs2 (fun d hx x hxc => ?_) F
    rcases hx with hx | hx
    · exact hd d hx x (List.mem_cons_of_mem _ hxc)
    · simp at hx
      rw [hx]
      exact hs1 x hxc
theorem outline_fine {cs : List Pi} (hne : cs ≠ []) (hs : cs.Pairwise LexI) : Fine (fun _ => True) (fun d => d ∈ cs.map toR) ((cs.foldl pushI []).map toR) := by
  match cs, hne, hs with
  | c :: cs, _, hs =>
    rw [List.foldl_cons]
    have hs' : ((c :: cs).map toR).Pairwise Lex := List.pairwise_map.mpr (hs.imp fun h => lexI_toR h)
    rw [List.map_cons] at hs'
    obtain ⟨hs1, hs2⟩ := List.pairwise_cons.mp hs'
    have F0 : Fine (fun _ => True) (fun d => d = toR c) ([c].map toR) := ⟨fun d hd => by rw [hd]; exact Rat.le_refl, fun v hv => by simpa using hv, fun b r e d hd => by
      cases e
      rw [hd]; exact Rat.le_refl, fun _ _ => trivial⟩
    have hd : ∀ d, d = toR c → ∀ x, x ∈ cs.map toR → Lex d x := fun d e x hx => by rw [e]; exact hs1 x hx
    show Fine _ _ ((cs.foldl pushI [c]).map toR)
    rw [fold_I (D := fun d => d = toR c) hs2 hd F0]
    have F := fold_step hs2 hd F0
    have e : Plus (fun d => d = toR c) (cs.map toR) = fun d => d ∈ (c :: cs).map toR := by
      funext d
      unfold Plus
      rw [List.map_cons, List.mem_cons]
    rw [e] at F
    exact F
theorem frac_eq {u l : Int} (hu : 0 ≤ u) (hl : 0 < l) : frac u l = (Ql88.fraction ((u : Rat) / (l : Rat))).map fun (x : Nat) => (x : Int) := by
  unfold Ql88.fraction
  rw [← Rat.divInt_eq_div, Rat.num_divInt, Rat.den_divInt, if_neg (by omega), Int.sign_eq_one_of_pos hl, Int.one_mul]
  unfold frac
  rw [Int.gcd_comm l u]
  have h1 : (0 : Int) ≤ u / (Int.gcd u l : Nat) := Int.ediv_nonneg hu (Int.natCast_nonneg _)
  have h2 : (l.natAbs : Int) = l := Int.natAbs_of_nonneg (by omega)
  simp only [List.map_cons, List.map_nil]
  rw [Int.toNat_of_nonneg h1, Int.natCast_ediv, h2]
theorem frac_one {u : Int} (hu : 0 ≤ u) : frac u 1 = (Ql88.fraction (u : Rat)).map fun (x : Nat) => (x : Int) := by
  rw [frac_eq hu (by omega)]
  have : ((1 : Int) : Rat) = 1 := rfl
  rw [this, Rat.div_def]
  congr 2
  grind
theorem gp_walk {D : Pt → Prop} : ∀ {l : List Pi}, l ≠ [] → FC D (l.map toR) → (∀ v, v ∈ l → 0 ≤ v.1 ∧ 0 ≤ v.2) → gpI l = (Ql88.pair (walk (l.map toR))).map fun (x : Nat) => (x : Int)
  | [], h, _, _ => absurd rfl h
  | [a], _, _, hn => by
    have na := hn a (List.mem_cons_self ..)
    show frac a.1 1 ++ frac a.2 1 = _
    rw [frac_one na.1, frac_one na.2]
    show _ = List.map _ (Ql88.fraction _ ++ Ql88.fraction _)
    rw [List.map_append]
    rfl
  | a :: b :: r, _, ⟨h1, h2, h3, h4⟩, hn => by
    have na := hn a (List.mem_cons_self ..)
    have nb := hn b (List.mem_cons_of_mem _ (List.mem_cons_self ..))
    have i1 : a.1 < b.1 := Rat.intCast_lt_intCast.mp h1
    have i2 : b.2 ≤ a.2 := Rat.intCast_le_intCast.mp h2
    show gpI (a :: b :: r) = List.map _ (Ql88.pair (walk (toR a :: toR b :: r.map toR)))
    unfold gpI walk
    have c1 : (a.2 - b.2) * a.1 + (b.1 - a.1) * a.2 ≤ 2 * (a.2 - b.2) * a.1 ↔ ((toR b).1 - (toR a).1) * (toR a).2 ≤ ((toR a).2 - (toR b).2) * (toR a).1 := by
      rw [← Rat.intCast_le_intCast]
      unfold toR
      dsimp only
      push_cast
      grind
    have c2 : (a.2 - b.2) * a.1 + (b.1 - a.1) * a.2 < 2 * (a.2 - b.2) * b.1 ↔ ((toR b).1 - (toR a).1) * (toR b).2 < ((toR a).2 - (toR b).2) * (toR b).1 := by
      rw [← Rat.intCast_lt_intCast]
      unfold toR
      dsimp only
      push_cast
      grind
    by_cases e1 : (a.2 - b.2) * a.1 + (b.1 - a.1) * a.2 ≤ 2 * (a.2 - b.2) * a.1
    · rw [if_pos e1, if_pos (c1.mp e1), frac_one na.1, frac_one na.2]
      show _ = List.map _ (Ql88.fraction _ ++ Ql88.fraction _)
      rw [List.map_append]
      rfl
    · rw [if_neg e1, if_neg (fun z => e1 (c1.mpr z))]
      by_cases e2 : (a.2 - b.2) * a.1 + (b.1 - a.1) * a.2 < 2 * (a.2 - b.2) * b.1
      · rw [if_pos e2, if_pos (c2.mp e2)]
        have m1 := Int.mul_nonneg (show 0 ≤ a.2 - b.2 by omega) na.1
        have m2 := Int.mul_nonneg (show 0 ≤ b.1 - a.1 by omega) na.2
        have hf : 0 < a.2 - b.2 := by
          rcases (show a.2 - b.2 = 0 ∨ 0 < a.2 - b.2 by omega) with z | z
          · rw [z] at e2 m1
            simp at e2
            omega
          · exact z
        rw [frac_eq (by omega) (show 0 < 2 * (a.2 - b.2) by omega), frac_eq (by omega) (show 0 < 2 * (b.1 - a.1) by omega)]
        show _ = List.map _ (Ql88.fraction _ ++ Ql88.fraction _)
        rw [List.map_append]
        unfold toR
        dsimp only
        push_cast
        rfl
      · rw [if_neg e2, if_neg (fun z => e2 (c2.mpr z))]
        exact gp_walk (by simp) h4 fun v hv => hn v (List.mem_cons_of_mem _ hv)
/-! ## what is due -/
theorem nash_due {P : List Pi} {cs : List Pi} (nn : ∀ v, v ∈ P → 0 ≤ v.1 ∧ 0 ≤ v.2) (g1 : ∃ v, v ∈ P ∧ 0 < v.1) (g2 : ∃ v, v ∈ P ∧ 0 < v.2) (hp : cs.Perm P) (hs : cs.Pairwise LexI) :
    gpI (cs.foldl pushI []).reverse = (Ql88.pair (nashOf (P.map toR))).map fun (x : Nat) => (x : Int) := by
  obtain ⟨v1, hv1, p1⟩ := g1
  obtain ⟨v2, hv2, p2⟩ := g2
  have hne : cs ≠ [] := fun e => by
    rw [e] at hp
    rw [← hp.mem_iff] at hv1
    exact nomatch hv1
  have F := outline_fine hne hs
  have e : (fun d => d ∈ cs.map toR) = fun d => d ∈ P.map toR := by
    funext d
    rw [(hp.map toR).mem_iff]
  rw [e] at F
  have nnR : ∀ v, v ∈ P.map toR → 0 ≤ v.1 ∧ 0 ≤ v.2 := fun v hv => by
    obtain ⟨x, hx, rfl⟩ := List.mem_map.mp hv
    exact ⟨Rat.intCast_nonneg.mpr (nn x hx).1, Rat.intCast_nonneg.mpr (nn x hx).2⟩
  have G : Good (P.map toR) := ⟨nnR, ⟨toR v1, List.mem_map.mpr ⟨v1, hv1, rfl⟩, Rat.intCast_pos.mpr p1⟩, ⟨toR v2, List.mem_map.mpr ⟨v2, hv2, rfl⟩, Rat.intCast_pos.mpr p2⟩⟩
  have C := fine_cert F nnR G.g1 G.g2
  rw [cert_one G C, ← List.map_reverse]
  obtain ⟨f1, f2, f3⟩ := F.fc
  rw [← List.map_reverse] at f1 f3
  refine gp_walk (D := fun d => d ∈ P.map toR) (fun e => ?_) f1 fun v hv => ?_
  · rw [e] at f1
    exact f1.elim
  · have := f3 (toR v) (List.mem_map.mpr ⟨v, hv, rfl⟩)
    obtain ⟨x, hx, ex⟩ := List.mem_map.mp this
    have e1 : ((x.1 : Int) : Rat) = (v.1 : Rat) := congrArg Prod.fst ex
    have e2 : ((x.2 : Int) : Rat) = (v.2 : Rat) := congrArg Prod.snd ex
    rw [Rat.intCast_inj] at e1 e2
    rw [← e1, ← e2]
    exact nn x hx
/-- the numbers two by two -/
def pairs : List Int → List Pi
  | x :: y :: r => (x, y) :: pairs r
  | _ => []
theorem corners_pairs : ∀ {p : List Int}, (∀ x, x ∈ p → 0 ≤ x) → Ql88.corners (p.map Int.toNat) = (pairs p).map toR
  | [], _ => rfl
  | [_], _ => rfl
  | x :: y :: r, h => by
    have hx := h x (List.mem_cons_self ..)
    have hy := h y (List.mem_cons_of_mem _ (List.mem_cons_self ..))
    show ((x.toNat : Rat), (y.toNat : Rat)) :: Ql88.corners (r.map Int.toNat) = toR (x, y) :: (pairs r).map toR
    rw [corners_pairs fun z hz => h z (List.mem_cons_of_mem _ (List.mem_cons_of_mem _ hz))]
    have e : ∀ z : Int, 0 ≤ z → ((z.toNat : Nat) : Rat) = (z : Rat) := fun z hz => by
      rw [← Rat.intCast_natCast, Int.toNat_of_nonneg hz]
    rw [e x hx, e y hy]
    rfl
theorem pairs_mem : ∀ {p : List Int} {v : Pi}, v ∈ pairs p → v.1 ∈ p ∧ v.2 ∈ p
  | x :: y :: r, v, h => by
    rcases List.mem_cons.mp h with rfl | h
    · exact ⟨List.mem_cons_self .., List.mem_cons_of_mem _ (List.mem_cons_self ..)⟩
    · have := pairs_mem h
      exact ⟨List.mem_cons_of_mem _ (List.mem_cons_of_mem _ this.1), List.mem_cons_of_mem _ (List.mem_cons_of_mem _ this.2)⟩
theorem mem_pairs : ∀ {n : Nat} {p : List Int} {x : Int}, p.length = 2 * n → x ∈ p → ∃ v, v ∈ pairs p ∧ (x = v.1 ∨ x = v.2)
  | 0, p, x, hl, h => by
    have e : p = [] := List.length_eq_zero_iff.mp (by omega)
    rw [e] at h
    exact nomatch h
  | n + 1, a :: b :: r, x, hl, h => by
    rcases List.mem_cons.mp h with rfl | h
    · exact ⟨(x, b), List.mem_cons_self .., .inl rfl⟩
    · rcases List.mem_cons.mp h with rfl | h
      · exact ⟨(a, x), List.mem_cons_self .., .inr rfl⟩
      · obtain ⟨v, hv, e⟩ := mem_pairs (n := n) (by simp at hl; omega) h
        exact ⟨v, List.mem_cons_of_mem _ hv, e⟩
  | n + 1, [a], x, hl, h => by simp at hl; omega
  | n + 1, [], x, hl, h => nomatch h
theorem pairs_length : ∀ {n : Nat} {p : List Int}, p.length = 2 * n → (pairs p).length = n
  | 0, [], _ => rfl
  | n + 1, a :: b :: r, h => by
    show (pairs r).length + 1 = n + 1
    rw [pairs_length (n := n) (by simp at h; omega)]
  | n + 1, [a], h => by simp at h; omega
  | n + 1, [], h => by simp at h
  | 0, _ :: _, h => by simp at h
theorem pairs_at : ∀ {p : List Int} {i : Nat} {x y : Int}, p[2 * i]? = some x → p[2 * i + 1]? = some y → (pairs p)[i]? = some (x, y)
  | a :: b :: r, 0, x, y, h1, h2 => by
    simp at h1 h2
    subst h1 h2
    rfl
  | a :: b :: r, i + 1, x, y, h1, h2 => by
    have e1 : 2 * (i + 1) = 2 * i + 1 + 1 := by omega
    rw [e1] at h1 h2
    simp at h1 h2
    show (pairs r)[i]? = some (x, y)
    exact pairs_at h1 h2
  | [a], 0, x, y, h1, h2 => by simp at h2
  | [a], i + 1, x, y, h1, h2 => by simp at h2
  | [], _, x, y, h1, h2 => by simp at h1
theorem due_2 {k : Int} {p : List Int} (h : ¬ (1 ≤ k ∧ k ≤ 256)) : PyQl88.nash k p = [-2] := by
  have b : Ql88.between k 1 256 = false := by
    unfold Ql88.between
    rw [Bool.and_eq_false_iff, decide_eq_false_iff_not, decide_eq_false_iff_not]
    omega
  show (Ql88.does (.nash k (p.map Int.toNat))).v :: (Ql88.does (.nash k (p.map Int.toNat))).out.map _ = _
  have e : Ql88.does (.nash k (p.map Int.toNat)) = { v := -2 } := by
    show Ql88.tells k (p.map Int.toNat) true (fun P => Ql88.pair (nashOf P)) = _
    unfold Ql88.tells
    rw [if_pos (.inl b)]
  rw [e]
  rfl
theorem between_ok {k : Int} (h1 : 1 ≤ k) (h2 : k ≤ 256) : Ql88.between k 1 256 = true := by
  unfold Ql88.between
  rw [Bool.and_eq_true, decide_eq_true_iff, decide_eq_true_iff]
  omega
theorem isCorners_iff {n : Nat} {p : List Int} (hl : p.length = 2 * n) (h0 : ∀ x, x ∈ p → 0 ≤ x) : Ql88.isCorners (p.map Int.toNat) = true ↔ (∀ v, v ∈ pairs p → v.1 ≤ 1000 ∧ v.2 ≤ 1000) ∧ (∃ v, v ∈ pairs p ∧ 0 < v.1) ∧ ∃ v, v ∈ pairs p ∧ 0 < v.2 := by
  unfold Ql88.isCorners
  rw [corners_pairs h0, Bool.and_eq_true, Bool.and_eq_true, List.all_eq_true, List.any_eq_true, List.any_eq_true]
  have k1 : (∀ x, x ∈ p.map Int.toNat → decide (x ≤ 1000) = true) ↔ ∀ v, v ∈ pairs p → v.1 ≤ 1000 ∧ v.2 ≤ 1000 := by
    constructor
    · intro h v hv
      obtain ⟨m1, m2⟩ := pairs_mem hv
      have a := of_decide_eq_true (h _ (List.mem_map.mpr ⟨_, m1, rfl⟩))
      have b := of_decide_eq_true (h _ (List.mem_map.mpr ⟨_, m2, rfl⟩))
      have := h0 _ m1
      have := h0 _ m2
      omega
    · intro h x hx
      obtain ⟨y, hy, rfl⟩ := List.mem_map.mp hx
      obtain ⟨v, hv, e⟩ := mem_pairs hl hy
      have := h v hv
      refine decide_eq_true ?_
      omega
  have k2 : (∃ z, z ∈ (pairs p).map toR ∧ decide (0 < z.1) = true) ↔ ∃ v, v ∈ pairs p ∧ 0 < v.1 := by
    constructor
    · rintro ⟨z, hz, h⟩
      obtain ⟨v, hv, rfl⟩ := List.mem_map.mp hz
      exact ⟨v, hv, Rat.intCast_pos.mp (of_decide_eq_true h)⟩
    · rintro ⟨v, hv, h⟩
      exact ⟨_, List.mem_map.mpr ⟨v, hv, rfl⟩, decide_eq_true (Rat.intCast_pos.mpr h)⟩
  have k3 : (∃ z, z ∈ (pairs p).map toR ∧ decide (0 < z.2) = true) ↔ ∃ v, v ∈ pairs p ∧ 0 < v.2 := by
    constructor
    · rintro ⟨z, hz, h⟩
      obtain ⟨v, hv, rfl⟩ := List.mem_map.mp hz
      exact ⟨v, hv, Rat.intCast_pos.mp (of_decide_eq_true h)⟩
    · rintro ⟨v, hv, h⟩
      exact ⟨_, List.mem_map.mpr ⟨v, hv, rfl⟩, decide_eq_true (Rat.intCast_pos.mpr h)⟩
  rw [k1, k2, k3]
/-- what the program's test asks -/
structure Worth (P : List Pi) : Prop where
  small : ∀ v, v ∈ P → v.1 ≤ 1000 ∧ v.2 ≤ 1000
  some1 : ∃ v, v ∈ P ∧ 0 < v.1
  some2 : ∃ v, v ∈ P ∧ 0 < v.2
theorem due_1 {n : Nat} {k : Int} {p : List Int} (h1 : 1 ≤ k) (h2 : k ≤ 256) (hl : p.length = 2 * n) (h0 : ∀ x, x ∈ p → 0 ≤ x) (h : ¬ Worth (pairs p)) : PyQl88.nash k p = [-1] := by
  have b : Ql88.isCorners (p.map Int.toNat) = false := by
    rw [← Bool.not_eq_true, isCorners_iff hl h0]
    exact fun z => h ⟨z.1, z.2.1, z.2.2⟩
  show (Ql88.does (.nash k (p.map Int.toNat))).v :: (Ql88.does (.nash k (p.map Int.toNat))).out.map _ = _
  have e : Ql88.does (.nash k (p.map Int.toNat)) = { v := -1 } := by
    show Ql88.tells k (p.map Int.toNat) true (fun P => Ql88.pair (nashOf P)) = _
    unfold Ql88.tells
    rw [if_neg (by rw [between_ok h1 h2]; simp), if_pos b]
  rw [e]
  rfl
theorem due_0 {n : Nat} {k : Int} {p : List Int} (h1 : 1 ≤ k) (h2 : k ≤ 256) (hl : p.length = 2 * n) (h0 : ∀ x, x ∈ p → 0 ≤ x) (h : Worth (pairs p)) {cs : List Pi} (hp : cs.Perm (pairs p)) (hs : cs.Pairwise LexI) :
    PyQl88.nash k p = 0 :: gpI (cs.foldl pushI []).reverse := by
  have b : Ql88.isCorners (p.map Int.toNat) = true := (isCorners_iff hl h0).mpr ⟨h.small, h.some1, h.some2⟩
  show (Ql88.does (.nash k (p.map Int.toNat))).v :: (Ql88.does (.nash k (p.map Int.toNat))).out.map _ = _
  have e : Ql88.does (.nash k (p.map Int.toNat)) = ⟨0, Ql88.pair (nashOf (Ql88.corners (p.map Int.toNat)))⟩ := by
    show Ql88.tells k (p.map Int.toNat) true (fun P => Ql88.pair (nashOf P)) = _
    unfold Ql88.tells
    rw [if_neg (by rw [between_ok h1 h2]; simp), if_neg (by rw [b]; simp)]
  rw [e, corners_pairs h0, nash_due (fun v hv => ⟨h0 _ (pairs_mem hv).1, h0 _ (pairs_mem hv).2⟩) h.some1 h.some2 hp hs]
end My
set_option linter.all false
namespace My
open Ql88 (left rim parts along most most1 most2 meet)
def Dual (D : Pt → Prop) (z : Pt) : Prop := ∀ m n B : Rat, 0 ≤ m → 0 ≤ n → (∀ d, D d → m * d.1 + n * d.2 ≤ B) → m * z.1 + n * z.2 ≤ B
/-- where a way from nothing comes to the edge -/
structure Ray (D : Pt → Prop) (u v : Rat) (z : Pt) : Prop where
  on : z.1 * v = z.2 * u
  nrm : ∃ m n : Rat, 0 ≤ m ∧ 0 ≤ n ∧ 0 < m * u + n * v ∧ ∀ d, D d → m * d.1 + n * d.2 ≤ m * z.1 + n * z.2
  dual : Dual D z
theorem ray_le {D D' : Pt → Prop} {u v : Rat} {y z : Pt} (hu : 0 < u) (hz : Ray D u v z) (hy1 : y.1 * v = y.2 * u) (hy : Dual D' y)
    (h : ∀ m n B : Rat, 0 ≤ m → 0 ≤ n → (∀ d, D d → m * d.1 + n * d.2 ≤ B) → ∀ d, D' d → m * d.1 + n * d.2 ≤ B) : y.1 ≤ z.1 := by
  obtain ⟨m, n, hm, hn, hp, k⟩ := hz.nrm
  have k2 := hy m n _ hm hn (h m n _ hm hn k)
  have k3 := Rat.mul_le_mul_of_nonneg_right k2 (Rat.le_of_lt hu)
  have e1 : (m * y.1 + n * y.2) * u = y.1 * (m * u + n * v) := by
    have : n * y.2 * u = n * (y.2 * u) := by grind
    rw [Rat.add_mul, this, ← hy1]; grind
  have e2 : (m * z.1 + n * z.2) * u = z.1 * (m * u + n * v) := by
    have : n * z.2 * u = n * (z.2 * u) := by grind
    rw [Rat.add_mul, this, ← hz.on]; grind
  rw [e1, e2] at k3
  exact Rat.le_of_mul_le_mul_right k3 hp
theorem ray_eq {u v : Rat} {y z : Pt} (hu : 0 < u) (hy : y.1 * v = y.2 * u) (hz : z.1 * v = z.2 * u) (e : y.1 = z.1) : y = z := by
  have : y.2 * u = z.2 * u := by rw [← hy, ← hz, e]
  have l1 := Rat.le_of_mul_le_mul_right (show y.2 * u ≤ z.2 * u by rw [this]; exact Rat.le_refl) hu
  have l2 := Rat.le_of_mul_le_mul_right (show z.2 * u ≤ y.2 * u by rw [this]; exact Rat.le_refl) hu
  exact Prod.ext e (Rat.le_antisymm l1 l2)
theorem dom_dual {P : List Pt} (g : Good P) {m n B : Rat} (hm : 0 ≤ m) (hn : 0 ≤ n) (h : ∀ d, d ∈ P → m * d.1 + n * d.2 ≤ B) : ∀ d, Dom P d → m * d.1 + n * d.2 ≤ B := fun d hd => by
  rcases hd with rfl | hd
  · obtain ⟨c, hc, ec⟩ := most2_at g
    have k := h c hc
    have := Rat.mul_nonneg hm (g.nn c hc).1
    dsimp only
    rw [← ec]
    grind
  · exact h d hd
/-- what a part of the edge keeps -/
structure Seg (D : Pt → Prop) (s : Pt × Pt) : Prop where
  nrm : ∃ m n : Rat, 0 ≤ m ∧ 0 ≤ n ∧ (0 < m ∨ 0 < n) ∧ m * s.1.1 + n * s.1.2 = m * s.2.1 + n * s.2.2 ∧ ∀ d, D d → m * d.1 + n * d.2 ≤ m * s.1.1 + n * s.1.2
  d1 : Dual D s.1
  d2 : Dual D s.2
theorem seg_of {D : Pt → Prop} {a b : Pt} (h1 : a.1 < b.1) (h2 : b.2 ≤ a.2) (h3 : ∀ d, D d → left a b d ≤ 0) (da : D a) (db : D b) : Seg D (a, b) := by
  refine ⟨⟨a.2 - b.2, b.1 - a.1, by grind, by grind, .inr (by grind), by grind, fun d hd => ?_⟩, fun m n B _ _ h => h a da, fun m n B _ _ h => h b db⟩
  have := h3 d hd
  unfold left at this
  grind
theorem seg_last {D : Pt → Prop} {a e : Pt} (he : e.1 = a.1) (he2 : e.2 = 0) (h : ∀ d, D d → d.1 ≤ a.1) (da : D a) (na : 0 ≤ a.2) : Seg D (a, e) := by
  refine ⟨⟨1, 0, by decide, by decide, .inl (by decide), by grind, fun d hd => ?_⟩, fun m n B _ _ h => h a da, fun m n B hm hn hB => ?_⟩
  · have := h d hd
    grind
  · have := hB a da
    have := Rat.mul_nonneg hn na
    dsimp only
    rw [he, he2]
    grind
theorem segs {D : Pt → Prop} {e : Pt} (he2 : e.2 = 0) (nn : ∀ v, D v → 0 ≤ v.1 ∧ 0 ≤ v.2) : ∀ {a : Pt} {r : List Pt}, FC D (a :: r) → (∀ v, v ∈ a :: r → D v) → (∀ z, (a :: r).getLast? = some z → z.1 = e.1) → ∀ s, s ∈ (a :: r ++ [e]).zip ((a :: r ++ [e]).drop 1) → Seg D s
  | a, [], h, hm, hl, s, hs => by
    simp at hs
    subst hs
    have da := hm a (List.mem_cons_self ..)
    exact seg_last (hl a rfl).symm he2 h da (nn a da).2
  | a, b :: r, ⟨h1, h2, h3, h4⟩, hm, hl, s, hs => by
    have hs' : s ∈ (a :: (b :: (r ++ [e]))).zip (b :: (r ++ [e])) := hs
    rw [List.zip_cons_cons] at hs'
    rcases List.mem_cons.mp hs' with rfl | hs'
    · exact seg_of h1 h2 h3 (hm a (List.mem_cons_self ..)) (hm b (List.mem_cons_of_mem _ (List.mem_cons_self ..)))
    · exact segs he2 nn h4 (fun v hv => hm v (List.mem_cons_of_mem _ hv)) (fun z hz => hl z (by simpa using hz)) s hs'
/-- the crossing of a part -/
def cross (u v : Rat) (s : Pt × Pt) : Option Pt :=
  let n := (s.2.1 - s.1.1) * v - (s.2.2 - s.1.2) * u
  let t := (s.1.2 * u - s.1.1 * v) / n
  if n ≠ 0 ∧ 0 ≤ t ∧ t ≤ 1 then some (along s t) else none
theorem cross_ray {D : Pt → Prop} {u v : Rat} (hu : 0 < u) (hv : 0 < v) {s : Pt × Pt} {z : Pt} (S : Seg D s) (h : cross u v s = some z) : Ray D u v z := by
  unfold cross at h
  dsimp only at h
  split at h
  · rename_i c
    obtain ⟨c0, c1, c2⟩ := c
    have e := Option.some.inj h
    have ht : (s.1.2 * u - s.1.1 * v) / ((s.2.1 - s.1.1) * v - (s.2.2 - s.1.2) * u) * ((s.2.1 - s.1.1) * v - (s.2.2 - s.1.2) * u) = s.1.2 * u - s.1.1 * v := Rat.div_mul_cancel c0
    generalize (s.1.2 * u - s.1.1 * v) / ((s.2.1 - s.1.1) * v - (s.2.2 - s.1.2) * u) = t at *
    subst e
    obtain ⟨m, n, hm, hn, hmn, eq, k⟩ := S.nrm
    refine ⟨by unfold along; grind, ⟨m, n, hm, hn, ?_, fun d hd => ?_⟩, fun m n B hm hn hB => ?_⟩
    · have p1 := Rat.mul_nonneg hm (Rat.le_of_lt hu)
      have p2 := Rat.mul_nonneg hn (Rat.le_of_lt hv)
      rcases hmn with q | q
      · have := Rat.mul_pos q hu
        grind
      · have := Rat.mul_pos q hv
        grind
    · have := k d hd
      have : m * (along s t).1 + n * (along s t).2 = m * s.1.1 + n * s.1.2 := by
        unfold along
        dsimp only
        have : m * (s.1.1 + t * (s.2.1 - s.1.1)) + n * (s.1.2 + t * (s.2.2 - s.1.2)) = (m * s.1.1 + n * s.1.2) + t * ((m * s.2.1 + n * s.2.2) - (m * s.1.1 + n * s.1.2)) := by grind
        rw [this, ← eq]; grind
      grind
    · have q1 := S.d1 m n B hm hn hB
      have q2 := S.d2 m n B hm hn hB
      have := mix c1 c2 q1 q2
      unfold along
      dsimp only
      grind
  · cases h
theorem cross_some {u v : Rat} {a b : Pt} (ha : 0 < a.2 * u - a.1 * v) (hb : b.2 * u - b.1 * v ≤ 0) : ∃ z, cross u v (a, b) = some z := by
  unfold cross
  dsimp only
  have hn : 0 < (b.1 - a.1) * v - (b.2 - a.2) * u := by grind
  have ht : (a.2 * u - a.1 * v) / ((b.1 - a.1) * v - (b.2 - a.2) * u) * ((b.1 - a.1) * v - (b.2 - a.2) * u) = a.2 * u - a.1 * v := Rat.div_mul_cancel (by grind)
  have hle : a.2 * u - a.1 * v ≤ (b.1 - a.1) * v - (b.2 - a.2) * u := by grind
  generalize (b.1 - a.1) * v - (b.2 - a.2) * u = n at *
  generalize (a.2 * u - a.1 * v) / n = t at *
  generalize a.2 * u - a.1 * v = g at *
  have t0 : 0 ≤ t := by
    have : 0 * n ≤ t * n := by grind
    exact Rat.le_of_mul_le_mul_right this hn
  have t1 : t ≤ 1 := by
    have : t * n ≤ 1 * n := by grind
    exact Rat.le_of_mul_le_mul_right this hn
  rw [if_pos ⟨by grind, t0, t1⟩]
  exact ⟨_, rfl⟩
theorem cross_ex {u v : Rat} {e : Pt} (he : e.2 * u - e.1 * v ≤ 0) : ∀ {a : Pt} {r : List Pt}, 0 < a.2 * u - a.1 * v → ∃ s, s ∈ (a :: r ++ [e]).zip ((a :: r ++ [e]).drop 1) ∧ ∃ z, cross u v s = some z
  | a, [], h => ⟨(a, e), by simp, cross_some h he⟩
  | a, b :: r, h => by
    by_cases hb : b.2 * u - b.1 * v ≤ 0
    · exact ⟨(a, b), by simp, cross_some h hb⟩
    · obtain ⟨s, h1, h2⟩ := cross_ex (r := r) he (a := b) (by grind)
      refine ⟨s, ?_, h2⟩
      show s ∈ (a :: (b :: (r ++ [e]))).zip (b :: (r ++ [e]))
      rw [List.zip_cons_cons]
      exact List.mem_cons_of_mem _ h1
theorem meet_ray {P : List Pt} (g : Good P) {u v : Rat} (hu : 0 < u) (hv : 0 < v) : Ray (Dom P) u v (meet P u v) := by
  obtain ⟨l, e, h⟩ := rim_fine g
  obtain ⟨h1, h2, h3⟩ := h.fc
  rw [← e] at h1 h2 h3
  have lastP : ∀ y, (rim P).getLast? = some y → y.1 = most1 P := fun y hy => by
    obtain ⟨c, hc, ec⟩ := most1_at g
    have k := fc_last h1 hy c (.inr hc)
    rcases h3 y (List.mem_of_getLast? hy) with q | q
    · have := most_nonneg (P.map fun z => z.1)
      have e0 : y.1 = 0 := by rw [q]
      have e1 : most1 P = most (P.map fun z => z.1) := rfl
      grind
    · have := most1_ge q
      grind
  have hbot : ∀ a r, rim P = a :: r → a = (0, most2 P) := fun a r q => by
    refine h.bot a ?_
    rw [← List.head?_reverse, ← e, q]
    rfl
  have m1 : 0 < most1 P := by
    obtain ⟨z, hz, hp⟩ := g.g1
    have := most1_ge hz
    grind
  have m2 : 0 < most2 P := by
    obtain ⟨z, hz, hp⟩ := g.g2
    have := most2_ge hz
    grind
  have em : meet P u v = ((parts P).findSome? (cross u v)).getD (0, 0) := rfl
  rw [em]
  have hall : ∀ s, s ∈ parts P → Seg (Dom P) s := fun s hs => by
    unfold parts at hs
    match hr : rim P, h1, h3 with
    | a :: r, h1, h3 =>
      dsimp only at hs
      rw [hr] at hs
      exact segs (e := (most1 P, 0)) rfl (dom_nn g) h1 h3 (fun z hz => lastP z (by rw [hr]; exact hz)) s hs
    | [], h1, _ => exact h1.elim
  have hex : ∃ s, s ∈ parts P ∧ ∃ z, cross u v s = some z := by
    match hr : rim P, h1 with
    | a :: r, h1 =>
      have ea := hbot a r hr
      have k := cross_ex (u := u) (v := v) (e := (most1 P, 0)) (a := a) (r := r) (by
        have := Rat.mul_pos m1 hv
        grind) (by
        have := Rat.mul_pos m2 hu
        rw [ea]
        grind)
      unfold parts
      rw [hr]
      exact k
    | [], h1 => exact h1.elim
  obtain ⟨s, hs, z, hz⟩ := hex
  cases hf : (parts P).findSome? (cross u v) with
  | none =>
    rw [List.findSome?_eq_none_iff] at hf
    rw [hf s hs] at hz
    cases hz
  | some y =>
    obtain ⟨s', hs', hy⟩ := List.exists_of_findSome?_eq_some hf
    exact cross_ray hu hv (hall s' hs') hy
/-- one place alone, whatever way it was found -/
theorem ray_one {P : List Pt} (g : Good P) {u v : Rat} (hu : 0 < u) (hv : 0 < v) {z : Pt} (R : Ray (fun d => d ∈ P) u v z) : meet P u v = z := by
  have M := meet_ray g hu hv
  refine ray_eq hu M.on R.on (Rat.le_antisymm ?_ ?_)
  · exact ray_le hu R M.on M.dual fun m n B hm hn h => dom_dual g hm hn h
  · exact ray_le hu M R.on R.dual fun m n B _ _ h d hd => h d (.inr hd)
end My
set_option linter.all false
namespace My
open Ql88 (left rim parts along most most1 most2 high root talkOf)
/-- on the edge -/
structure Sup (D : Pt → Prop) (z : Pt) : Prop where
  nrm : ∃ m n : Rat, 0 ≤ m ∧ 0 ≤ n ∧ (0 < m ∨ 0 < n) ∧ ∀ d, D d → m * d.1 + n * d.2 ≤ m * z.1 + n * z.2
  dual : Dual D z
  nn : 0 ≤ z.1 ∧ 0 ≤ z.2
structure Tk (D : Pt → Prop) (d e : Rat) (a b : Pt) : Prop where
  s1 : Sup D a
  s2 : Sup D b
  e1 : b.1 = d * a.1
  e2 : a.2 = e * b.2
/-- the height of a part at x -/
def hgt (s : Pt × Pt) (x : Rat) : Rat := s.1.2 + (s.2.2 - s.1.2) * (x - s.1.1) / (s.2.1 - s.1.1)
def spans (s : Pt × Pt) (x : Rat) : Prop := s.1.1 ≤ x ∧ x ≤ s.2.1 ∧ s.1.1 < s.2.1
theorem high_cons2 (a b : Pt) (r : List Pt) (x : Rat) : high (a :: b :: r) x = if a.1 ≤ x ∧ x ≤ b.1 ∧ a.1 < b.1 then hgt (a, b) x else high (b :: r) x := by
  unfold high
  show (List.findSome? _ (((a :: b :: r).zip (b :: r)))).getD 0 = _
  rw [List.zip_cons_cons, List.findSome?_cons]
  by_cases c : a.1 ≤ x ∧ x ≤ b.1 ∧ a.1 < b.1
  · rw [if_pos c]
    dsimp only
    rw [if_pos c]
    rfl
  · rw [if_neg c]
    dsimp only
    rw [if_neg c]
    rfl
theorem hgt_left (a b : Pt) (h : a.1 < b.1) : hgt (a, b) a.1 = a.2 := by
  unfold hgt
  dsimp only
  have : (b.2 - a.2) * (a.1 - a.1) / (b.1 - a.1) = 0 := div_eq_of (by grind) (by grind)
  rw [this]; grind
theorem hgt_right (a b : Pt) (h : a.1 < b.1) : hgt (a, b) b.1 = b.2 := by
  unfold hgt
  dsimp only
  have : (b.2 - a.2) * (b.1 - a.1) / (b.1 - a.1) = b.2 - a.2 := div_eq_of (by grind) (by grind)
  rw [this]; grind
/-- from the first on the first's number grows -/
def Grow : List Pt → Prop
  | a :: b :: r => a.1 < b.1 ∧ Grow (b :: r)
  | _ => True
theorem fc_grow {D : Pt → Prop} : ∀ {l : List Pt}, FC D l → Grow l
  | [], _ => trivial
  | [a], _ => trivial
  | a :: b :: r, ⟨h1, _, _, h4⟩ => ⟨h1, fc_grow h4⟩
theorem grow_le : ∀ {a : Pt} {r : List Pt}, Grow (a :: r) → ∀ v, v ∈ a :: r → a.1 ≤ v.1
  | a, [], _, v, hv => by
    simp at hv
    rw [hv]; exact Rat.le_refl
  | a, b :: r, ⟨h1, h2⟩, v, hv => by
    rcases List.mem_cons.mp hv with rfl | hv
    · exact Rat.le_refl
    · have := grow_le h2 v hv
      grind
theorem grow_last : ∀ {a : Pt} {r : List Pt} {z : Pt}, Grow (a :: r) → (a :: r).getLast? = some z → ∀ v, v ∈ a :: r → v.1 ≤ z.1
  | a, [], z, _, hz, v, hv => by
    simp at hz hv
    rw [hv, hz]; exact Rat.le_refl
  | a, b :: r, z, ⟨h1, h2⟩, hz, v, hv => by
    have hz' : (b :: r).getLast? = some z := by simpa using hz
    rcases List.mem_cons.mp hv with rfl | hv
    · have := grow_last h2 hz' b (List.mem_cons_self ..)
      grind
    · exact grow_last h2 hz' v hv
/-- at the first's own place -/
theorem high_first {b : Pt} {r : List Pt} (h : Grow (b :: r)) (hr : r ≠ []) : high (b :: r) b.1 = b.2 := by
  match r, hr, h with
  | c :: r, _, ⟨h1, h2⟩ =>
    rw [high_cons2, if_pos ⟨Rat.le_refl, Rat.le_of_lt h1, h1⟩]
    exact hgt_left _ _ h1
/-- any part that spans x tells the height there -/
theorem high_seg {x : Rat} : ∀ {l : List Pt} {s : Pt × Pt}, Grow l → s ∈ l.zip (l.drop 1) → spans s x → high l x = hgt s x
  | [], s, _, hs, _ => by simp at hs
  | [a], s, _, hs, _ => by simp at hs
  | a :: b :: r, s, ⟨h1, h2⟩, hs, ⟨k1, k2, k3⟩ => by
    have hs' : s ∈ (a :: b :: r).zip (b :: r) := hs
    rw [List.zip_cons_cons] at hs'
    rw [high_cons2]
    rcases List.mem_cons.mp hs' with rfl | hs'
    · rw [if_pos ⟨k1, k2, k3⟩]
    · have hm : s.1 ∈ b :: r := (mem_zip_drop (l := b :: r) hs').1
      have hb := grow_le h2 s.1 hm
      by_cases c : a.1 ≤ x ∧ x ≤ b.1 ∧ a.1 < b.1
      · rw [if_pos c]
        have ex : x = b.1 := by grind
        subst ex
        rw [hgt_right _ _ h1]
        have hr : r ≠ [] := fun e => by
          subst e
          simp at hs'
        have e1 := high_seg h2 hs' ⟨k1, k2, k3⟩
        rw [← e1, high_first h2 hr]
      · rw [if_neg c]
        exact high_seg h2 hs' ⟨k1, k2, k3⟩
/-- a part that spans both, where nothing bends between -/
theorem seg_ex {x y : Rat} : ∀ {a : Pt} {r : List Pt} {z : Pt}, Grow (a :: r) → (a :: r).getLast? = some z → a.1 ≤ x → x < y → y ≤ z.1 → (∀ v, v ∈ a :: r → v.1 ≤ x ∨ y ≤ v.1) → ∃ s, s ∈ (a :: r).zip ((a :: r).drop 1) ∧ spans s x ∧ spans s y
  | a, [], z, _, hz, h1, h2, h3, _ => by
    simp at hz
    subst hz
    grind
  | a, b :: r, z, ⟨g1, g2⟩, hz, h1, h2, h3, hv => by
    rcases hv b (List.mem_cons_of_mem _ (List.mem_cons_self ..)) with c | c
    · obtain ⟨s, k1, k2⟩ := seg_ex g2 (by simpa using hz) c h2 h3 fun v hv' => hv v (List.mem_cons_of_mem _ hv')
      refine ⟨s, ?_, k2⟩
      show s ∈ (a :: b :: r).zip (b :: r)
      rw [List.zip_cons_cons]
      exact List.mem_cons_of_mem _ k1
    · exact ⟨(a, b), by simp, ⟨h1, Rat.le_trans (Rat.le_of_lt h2) c, g1⟩, ⟨Rat.le_trans h1 (Rat.le_of_lt h2), c, g1⟩⟩
theorem hgt_affine {s : Pt × Pt} (h : s.1.1 < s.2.1) (x y t : Rat) : hgt s (x + t * (y - x)) = hgt s x + t * (hgt s y - hgt s x) := by
  unfold hgt
  have hd : s.2.1 - s.1.1 ≠ 0 := by grind
  have e : ∀ w, (s.2.2 - s.1.2) * (w - s.1.1) / (s.2.1 - s.1.1) = (s.2.2 - s.1.2) / (s.2.1 - s.1.1) * (w - s.1.1) := fun w => by
    refine div_eq_of hd ?_
    have : (s.2.2 - s.1.2) / (s.2.1 - s.1.1) * (s.2.1 - s.1.1) = s.2.2 - s.1.2 := Rat.div_mul_cancel hd
    generalize (s.2.2 - s.1.2) / (s.2.1 - s.1.1) = q at *
    rw [← this]; grind
  rw [e, e, e]
  grind
theorem between {x y t : Rat} (h : x ≤ y) (t0 : 0 ≤ t) (t1 : t ≤ 1) : x ≤ x + t * (y - x) ∧ x + t * (y - x) ≤ y :=
  ⟨mix' t0 t1 Rat.le_refl h, mix t0 t1 h Rat.le_refl⟩
theorem high_affine {a : Pt} {r : List Pt} {z : Pt} (g : Grow (a :: r)) (hz : (a :: r).getLast? = some z) {x y t : Rat} (h1 : a.1 ≤ x) (h2 : x < y) (h3 : y ≤ z.1) (hv : ∀ v, v ∈ a :: r → v.1 ≤ x ∨ y ≤ v.1) (t0 : 0 ≤ t) (t1 : t ≤ 1) :
    high (a :: r) (x + t * (y - x)) = high (a :: r) x + t * (high (a :: r) y - high (a :: r) x) := by
  obtain ⟨s, k1, k2, k3⟩ := seg_ex g hz h1 h2 h3 hv
  obtain ⟨b1, b2⟩ := between (Rat.le_of_lt h2) t0 t1
  rw [high_seg g k1 k2, high_seg g k1 k3, high_seg g k1 ⟨Rat.le_trans k2.1 b1, Rat.le_trans b2 k3.2.1, k2.2.2⟩]
  exact hgt_affine k2.2.2 x y t
/-- what is told of the height at x -/
theorem hgt_sup {D : Pt → Prop} {s : Pt × Pt} {x : Rat} (S : Seg D s) (n1 : 0 ≤ s.1.1 ∧ 0 ≤ s.1.2) (n2 : 0 ≤ s.2.1 ∧ 0 ≤ s.2.2) (h : spans s x) : Sup D (x, hgt s x) := by
  obtain ⟨k1, k2, k3⟩ := h
  have hd : 0 < s.2.1 - s.1.1 := by grind
  -- x as a mixture
  obtain ⟨t, ht⟩ : ∃ t, t * (s.2.1 - s.1.1) = x - s.1.1 := ⟨(x - s.1.1) / (s.2.1 - s.1.1), Rat.div_mul_cancel (by grind)⟩
  have t0 : 0 ≤ t := by
    have : 0 * (s.2.1 - s.1.1) ≤ t * (s.2.1 - s.1.1) := by grind
    exact Rat.le_of_mul_le_mul_right this hd
  have t1 : t ≤ 1 := by
    have : t * (s.2.1 - s.1.1) ≤ 1 * (s.2.1 - s.1.1) := by grind
    exact Rat.le_of_mul_le_mul_right this hd
  have ex : x = s.1.1 + t * (s.2.1 - s.1.1) := by grind
  have eh : hgt s x = s.1.2 + t * (s.2.2 - s.1.2) := by
    unfold hgt
    have : (s.2.2 - s.1.2) * (x - s.1.1) / (s.2.1 - s.1.1) = t * (s.2.2 - s.1.2) := div_eq_of (by grind) (by rw [← ht]; grind)
    rw [this]
  obtain ⟨m, n, hm, hn, hmn, eq, k⟩ := S.nrm
  rw [eh, ex]
  refine ⟨⟨m, n, hm, hn, hmn, fun d hd' => ?_⟩, fun m n B hm hn hB => ?_, ⟨mix' t0 t1 n1.1 n2.1, mix' t0 t1 n1.2 n2.2⟩⟩
  · have := k d hd'
    dsimp only
    have : m * (s.1.1 + t * (s.2.1 - s.1.1)) + n * (s.1.2 + t * (s.2.2 - s.1.2)) = (m * s.1.1 + n * s.1.2) + t * ((m * s.2.1 + n * s.2.2) - (m * s.1.1 + n * s.1.2)) := by grind
    rw [this, ← eq]; grind
  · have q1 := S.d1 m n B hm hn hB
    have q2 := S.d2 m n B hm hn hB
    have := mix t0 t1 q1 q2
    dsimp only
    grind
theorem span_ex {x : Rat} : ∀ {a : Pt} {r : List Pt} {z : Pt}, Grow (a :: r) → r ≠ [] → (a :: r).getLast? = some z → a.1 ≤ x → x ≤ z.1 → ∃ s, s ∈ (a :: r).zip ((a :: r).drop 1) ∧ spans s x
  | a, [], z, _, h, _, _, _ => absurd rfl h
  | a, b :: r, z, ⟨g1, g2⟩, _, hz, h1, h2 => by
    by_cases c : x ≤ b.1
    · exact ⟨(a, b), by simp, h1, c, g1⟩
    · have hr : r ≠ [] := fun e => by
        subst e
        simp at hz
        subst hz
        exact c h2
      obtain ⟨s, k1, k2⟩ := span_ex g2 hr (by simpa using hz) (by grind) h2
      refine ⟨s, ?_, k2⟩
      show s ∈ (a :: b :: r).zip (b :: r)
      rw [List.zip_cons_cons]
      exact List.mem_cons_of_mem _ k1
theorem fc_seg {D : Pt → Prop} : ∀ {a : Pt} {r : List Pt}, FC D (a :: r) → (∀ v, v ∈ a :: r → D v) → ∀ s, s ∈ (a :: r).zip ((a :: r).drop 1) → Seg D s
  | a, [], _, _, s, hs => by simp at hs
  | a, b :: r, ⟨h1, h2, h3, h4⟩, hm, s, hs => by
    have hs' : s ∈ (a :: b :: r).zip (b :: r) := hs
    rw [List.zip_cons_cons] at hs'
    rcases List.mem_cons.mp hs' with rfl | hs'
    · exact seg_of h1 h2 h3 (hm a (List.mem_cons_self ..)) (hm b (List.mem_cons_of_mem _ (List.mem_cons_self ..)))
    · exact fc_seg h4 (fun v hv => hm v (List.mem_cons_of_mem _ hv)) s hs'
/-! ### the first place where something has come down to 0 -/
theorem root_some {f : Rat → Rat} {x : Rat} : ∀ {a : Rat} {r : List Rat}, 0 < f a → root f (a :: r) = some x → ∃ pre a' b' post, a :: r = pre ++ a' :: b' :: post ∧ 0 < f a' ∧ f b' ≤ 0 ∧ x = a' + (b' - a') * f a' / (f a' - f b')
  | a, [], _, h => by simp [root] at h
  | a, b :: r, ha, h => by
    unfold root at h
    by_cases c : f b ≤ 0
    · rw [if_pos c] at h
      exact ⟨[], a, b, r, rfl, ha, c, (Option.some.inj h).symm⟩
    · rw [if_neg c] at h
      obtain ⟨pre, a', b', post, e, k⟩ := root_some (by grind) h
      exact ⟨a :: pre, a', b', post, by rw [e]; rfl, k⟩
theorem root_none {f : Rat → Rat} : ∀ {a : Rat} {r : List Rat}, root f (a :: r) = none → ∀ b, b ∈ r → 0 < f b
  | a, [], _, b, hb => nomatch hb
  | a, c :: r, h, b, hb => by
    unfold root at h
    by_cases k : f c ≤ 0
    · rw [if_pos k] at h
      cases h
    · rw [if_neg k] at h
      rcases List.mem_cons.mp hb with rfl | hb
      · exact Rat.not_le.mp k
      · exact root_none h b hb
theorem sorted_gap {pre post : List Rat} {a b : Rat} (h : (pre ++ a :: b :: post).Pairwise (· ≤ ·)) : ∀ c, c ∈ pre ++ a :: b :: post → c ≤ a ∨ b ≤ c := fun c hc => by
  rw [List.pairwise_append] at h
  obtain ⟨_, h2, h3⟩ := h
  rcases List.mem_append.mp hc with hc | hc
  · exact .inl (h3 c hc a (List.mem_cons_self ..))
  · rcases List.mem_cons.mp hc with rfl | hc
    · exact .inl Rat.le_refl
    · rcases List.mem_cons.mp hc with rfl | hc
      · exact .inr Rat.le_refl
      · have := (List.pairwise_cons.mp (List.pairwise_cons.mp h2).2).1 c hc
        exact .inr this
theorem talk_spec {P : List Pt} (g : Good P) {d e : Rat} (d0 : 0 < d) (d1 : d < 1) (e0 : 0 < e) (e1 : e < 1) : Tk (Dom P) d e (talkOf P d e).1 (talkOf P d e).2 := by
  obtain ⟨l, el, h⟩ := rim_fine g
  obtain ⟨h1, h2, h3⟩ := h.fc
  rw [← el] at h1 h2 h3
  have m1 : 0 < most1 P := by
    obtain ⟨z, hz, hp⟩ := g.g1
    have := most1_ge hz
    grind
  have m2 : 0 < most2 P := by
    obtain ⟨z, hz, hp⟩ := g.g2
    have := most2_ge hz
    grind
  have hbot : ∀ a r, rim P = a :: r → a = (0, most2 P) := fun a r q => by
    refine h.bot a ?_
    rw [← List.head?_reverse, ← el, q]
    rfl
  have lastP : ∀ y, (rim P).getLast? = some y → y.1 = most1 P := fun y hy => by
    obtain ⟨c, hc, ec⟩ := most1_at g
    have k := fc_last h1 hy c (.inr hc)
    rcases h3 y (List.mem_of_getLast? hy) with q | q
    · have e0 : y.1 = 0 := by rw [q]
      grind
    · have := most1_ge q
      grind
  unfold talkOf
  dsimp only
  match hr : rim P, h1, h2, h3 with
  | [], h1, _, _ => exact h1.elim
  | a :: r, h1, h2, h3 =>
    have ea := hbot a r hr
    have ea1 : a.1 = 0 := by rw [ea]
    have ea2 : a.2 = most2 P := by rw [ea]
    have G := fc_grow h1
    obtain ⟨z, hz⟩ : ∃ z, (a :: r).getLast? = some z := ⟨(a :: r).getLast (by simp), List.getLast?_eq_some_getLast (by simp)⟩
    have hz1 : z.1 = most1 P := lastP z (by rw [hr]; exact hz)
    have hrn : r ≠ [] := fun q => by
      subst q
      simp at hz
      subst hz
      grind
    have sup : ∀ x, 0 ≤ x → x ≤ most1 P → Sup (Dom P) (x, high (a :: r) x) := fun x x0 x1 => by
      obtain ⟨s, k1, k2⟩ := span_ex G hrn hz (by rw [ea1]; exact x0) (by rw [hz1]; exact x1)
      rw [high_seg G k1 k2]
      obtain ⟨q1, q2⟩ := mem_zip_drop k1
      exact hgt_sup (fc_seg h1 h3 s k1) (dom_nn g _ (h3 _ q1)) (dom_nn g _ (h3 _ q2)) k2
    generalize hf : (fun x => high (a :: r) x - e * high (a :: r) (d * x)) = f
    have fx : ∀ x, f x = high (a :: r) x - e * high (a :: r) (d * x) := fun x => by rw [← hf]
    have h0 : high (a :: r) 0 = most2 P := by
      have := high_first G hrn
      rw [ea1, ea2] at this
      exact this
    have f0 : 0 < f 0 := by
      rw [fx, Rat.mul_zero, h0]
      have := Rat.mul_pos m2 (show 0 < 1 - e by grind)
      grind
    generalize hxs : (a :: r).map (fun z => z.1) = xs
    generalize hpl : (xs ++ (xs.map fun x => x / d).filter fun x => decide (x ≤ most1 P)).mergeSort (fun a b => decide (a ≤ b)) = places
    have pmem : ∀ c, c ∈ places ↔ c ∈ xs ∨ ((∃ x, x ∈ xs ∧ x / d = c) ∧ c ≤ most1 P) := fun c => by
      rw [← hpl, (List.mergeSort_perm _ _).mem_iff, List.mem_append, List.mem_filter, List.mem_map]
      simp
    have psort : places.Pairwise (· ≤ ·) := by
      have := List.pairwise_mergeSort (le := fun (a b : Rat) => decide (a ≤ b)) (fun a b c h1 h2 => by simp at *; exact Rat.le_trans h1 h2) (fun a b => by simp; exact Rat.le_total) (xs ++ (xs.map fun x => x / d).filter fun x => decide (x ≤ most1 P))
      rw [hpl] at this
      exact this.imp fun h => by simpa using h
    have xs_nn : ∀ x, x ∈ xs → 0 ≤ x ∧ x ≤ most1 P := fun x hx => by
      rw [← hxs] at hx
      obtain ⟨v, hv, rfl⟩ := List.mem_map.mp hx
      exact ⟨(dom_nn g v (h3 v hv)).1, by have := grow_last G hz v hv; rw [hz1] at this; exact this⟩
    have x0 : (0 : Rat) ∈ xs := by rw [← hxs, ← ea1]; exact List.mem_map.mpr ⟨a, List.mem_cons_self .., rfl⟩
    have xm : most1 P ∈ xs := by rw [← hxs, ← hz1]; exact List.mem_map.mpr ⟨z, List.mem_of_getLast? hz, rfl⟩
    have divd : ∀ x, x / d * d = x := fun x => Rat.div_mul_cancel (by grind)
    have p_nn : ∀ c, c ∈ places → 0 ≤ c ∧ c ≤ most1 P := fun c hc => by
      rcases (pmem c).mp hc with k | ⟨⟨x, hx, rfl⟩, k⟩
      · exact xs_nn c k
      · refine ⟨?_, k⟩
        have : 0 * d ≤ x / d * d := by rw [divd]; have := (xs_nn x hx).1; grind
        exact Rat.le_of_mul_le_mul_right this d0
    obtain ⟨c, cs, hp⟩ : ∃ c cs, places = c :: cs := by
      cases places with
      | nil => exact absurd ((pmem 0).mpr (.inl x0)) (by simp)
      | cons c cs => exact ⟨c, cs, rfl⟩
    rw [hp]
    have hc0 : c = 0 := by
      have q1 := (p_nn c (by rw [hp]; exact List.mem_cons_self ..)).1
      have q2 := (pmem 0).mpr (.inl x0)
      rw [hp] at q2
      rcases List.mem_cons.mp q2 with q2 | q2
      · exact q2.symm
      · rw [hp] at psort
        have := (List.pairwise_cons.mp psort).1 0 q2
        exact Rat.le_antisymm this q1
    subst hc0
    cases hroot : root f (0 :: cs) with
    | some x =>
      dsimp only
      obtain ⟨pre, a', b', post, es, fa, fb, ex⟩ := root_some f0 hroot
      have gap := sorted_gap (by rw [← es, ← hp]; exact psort)
      rw [← es, ← hp] at gap
      have ma : a' ∈ places := by rw [hp, es]; simp
      have mb : b' ∈ places := by rw [hp, es]; simp
      have hab : a' < b' := by
        have le : a' ≤ b' := by
          have := psort
          rw [hp, es, List.pairwise_append] at this
          exact (List.pairwise_cons.mp this.2.1).1 b' (List.mem_cons_self ..)
        rcases (show a' < b' ∨ a' = b' by grind) with q | q
        · exact q
        · rw [q] at fa
          grind
      have na := p_nn a' ma
      have nb := p_nn b' mb
      have hD : 0 < f a' - f b' := by grind
      obtain ⟨t, ht⟩ : ∃ t, t * (f a' - f b') = f a' := ⟨f a' / (f a' - f b'), Rat.div_mul_cancel (by grind)⟩
      have t0 : 0 ≤ t := by
        have : 0 * (f a' - f b') ≤ t * (f a' - f b') := by grind
        exact Rat.le_of_mul_le_mul_right this hD
      have t1 : t ≤ 1 := by
        have : t * (f a' - f b') ≤ 1 * (f a' - f b') := by grind
        exact Rat.le_of_mul_le_mul_right this hD
      have ext : x = a' + t * (b' - a') := by
        rw [ex]
        have : (b' - a') * f a' / (f a' - f b') = t * (b' - a') := div_eq_of (by grind) (by rw [← ht]; grind)
        rw [this]
      obtain ⟨bx1, bx2⟩ := between (Rat.le_of_lt hab) t0 t1
      rw [← ext] at bx1 bx2
      have hgx : high (a :: r) x = high (a :: r) a' + t * (high (a :: r) b' - high (a :: r) a') := by
        rw [ext]
        refine high_affine G hz (by rw [ea1]; exact na.1) hab (by rw [hz1]; exact nb.2) (fun v hv => ?_) t0 t1
        exact gap v.1 ((pmem v.1).mpr (.inl (by rw [← hxs]; exact List.mem_map.mpr ⟨v, hv, rfl⟩)))
      have hgd : high (a :: r) (d * x) = high (a :: r) (d * a') + t * (high (a :: r) (d * b') - high (a :: r) (d * a')) := by
        have : d * x = d * a' + t * (d * b' - d * a') := by rw [ext]; grind
        rw [this]
        have q1 := Rat.mul_nonneg (Rat.le_of_lt d0) na.1
        have q2 := Rat.mul_lt_mul_of_pos_left hab d0
        have q3 : d * b' ≤ most1 P := by
          have := Rat.mul_nonneg nb.1 (show 0 ≤ 1 - d by grind)
          grind
        refine high_affine G hz (by rw [ea1]; exact q1) q2 (by rw [hz1]; exact q3) (fun v hv => ?_) t0 t1
        have vx : v.1 ∈ xs := by rw [← hxs]; exact List.mem_map.mpr ⟨v, hv, rfl⟩
        have vd := divd v.1
        by_cases hle : v.1 / d ≤ most1 P
        · rcases gap (v.1 / d) ((pmem _).mpr (.inr ⟨⟨v.1, vx, rfl⟩, hle⟩)) with k | k
          · have := Rat.mul_le_mul_of_nonneg_right k (Rat.le_of_lt d0)
            exact .inl (by grind)
          · have := Rat.mul_le_mul_of_nonneg_right k (Rat.le_of_lt d0)
            exact .inr (by grind)
        · have k : b' ≤ v.1 / d := by grind
          have := Rat.mul_le_mul_of_nonneg_right k (Rat.le_of_lt d0)
          exact .inr (by grind)
      have hfx : high (a :: r) x = e * high (a :: r) (d * x) := by
        have ga := fx a'
        have gb := fx b'
        have : high (a :: r) x - e * high (a :: r) (d * x) = f a' - t * (f a' - f b') := by
          rw [hgx, hgd, ga, gb]; grind
        rw [ht] at this
        grind
      have x0' : 0 ≤ x := Rat.le_trans na.1 bx1
      have x1' : x ≤ most1 P := Rat.le_trans bx2 nb.2
      have dx0 := Rat.mul_nonneg (Rat.le_of_lt d0) x0'
      have dx1 : d * x ≤ most1 P := by
        have := Rat.mul_nonneg x0' (show 0 ≤ 1 - d by grind)
        grind
      exact ⟨sup x x0' x1', sup (d * x) dx0 dx1, rfl, hfx⟩
    | none =>
      dsimp only
      have hall := root_none hroot
      have mm : most1 P ∈ cs := by
        have := (pmem _).mpr (.inl xm)
        rw [hp] at this
        rcases List.mem_cons.mp this with k | k
        · grind
        · exact k
      have fm := hall _ mm
      rw [fx] at fm
      have dm0 := Rat.mul_nonneg (Rat.le_of_lt d0) (Rat.le_of_lt m1)
      have dm1 : d * most1 P ≤ most1 P := by
        have := Rat.mul_nonneg (Rat.le_of_lt m1) (show 0 ≤ 1 - d by grind)
        grind
      have S := sup (d * most1 P) dm0 dm1
      have T := sup (most1 P) (Rat.le_of_lt m1) Rat.le_refl
      refine ⟨⟨⟨1, 0, by decide, by decide, .inl (by decide), fun y hy => ?_⟩, fun m n B hm hn hB => ?_, ⟨Rat.le_of_lt m1, Rat.mul_nonneg (Rat.le_of_lt e0) S.nn.2⟩⟩, S, rfl, rfl⟩
      · dsimp only
        rcases hy with rfl | hy
        · dsimp only
          grind
        · have := most1_ge hy
          grind
      · have := T.dual m n B hm hn hB
        dsimp only at *
        have := Rat.mul_nonneg hn (show 0 ≤ high (a :: r) (most1 P) - e * high (a :: r) (d * most1 P) by grind)
        grind
end My
set_option linter.all false
namespace My
open Ql88 (left rim parts along most most1 most2 high root talkOf)
theorem dual_mem {D : Pt → Prop} {z : Pt} (h : D z) : Dual D z := fun m n B _ _ hB => hB z h
/-- an edge's slope there, where something lies further for the first -/
theorem Sup.slope {D : Pt → Prop} {a y : Pt} (S : Sup D a) (hy : Dual D y) (h : a.1 < y.1) : ∃ s : Rat, 0 ≤ s ∧ ∀ z, Dual D z → s * z.1 + z.2 ≤ s * a.1 + a.2 := by
  obtain ⟨m, n, hm, hn, hmn, k⟩ := S.nrm
  have hn0 : 0 < n := by
    rcases (show n = 0 ∨ 0 < n by grind) with e | e
    · subst e
      have hm0 : 0 < m := by grind
      have := hy m 0 _ hm Rat.le_refl k
      have := Rat.mul_pos hm0 (show 0 < y.1 - a.1 by grind)
      grind
    · exact e
  obtain ⟨s, hs⟩ : ∃ s, s * n = m := ⟨m / n, Rat.div_mul_cancel (by grind)⟩
  have s0 : 0 ≤ s := by
    have : 0 * n ≤ s * n := by grind
    exact Rat.le_of_mul_le_mul_right this hn0
  refine ⟨s, s0, fun z hz => ?_⟩
  have := hz m n _ hm hn k
  have e1 : (s * z.1 + z.2) * n = m * z.1 + n * z.2 := by rw [← hs]; grind
  have e2 : (s * a.1 + a.2) * n = m * a.1 + n * a.2 := by rw [← hs]; grind
  exact Rat.le_of_mul_le_mul_right (show (s * z.1 + z.2) * n ≤ (s * a.1 + a.2) * n by rw [e1, e2]; exact this) hn0
theorem flat_no {D : Pt → Prop} {d e : Rat} {a b : Pt} (e0 : 0 < e) (e1 : e < 1) (T : Tk D d e a b) (g : ∃ v, D v ∧ 0 < v.2) (h : ∀ z, Dual D z → z.2 ≤ a.2) : False := by
  have h1 := h b T.s2.dual
  have h2 := T.e2
  obtain ⟨v, hv, hp⟩ := g
  have h3 := h v (dual_mem hv)
  have h4 : b.2 * (1 - e) ≤ 0 := by grind
  have := Rat.mul_pos (show 0 < b.2 by
    rcases (show b.2 ≤ 0 ∨ 0 < b.2 by grind) with q | q
    · have := mul_np q (Rat.le_of_lt e0)
      grind
    · exact q) (show 0 < 1 - e by grind)
  grind
theorem tk_le {D : Pt → Prop} {d e : Rat} {a b a' b' : Pt} (d0 : 0 < d) (d1 : d < 1) (e0 : 0 < e) (e1 : e < 1) (g : ∃ v, D v ∧ 0 < v.2) (T : Tk D d e a b) (T' : Tk D d e a' b') : ¬ a.1 < a'.1 := fun h => by
  obtain ⟨s, s0, ks⟩ := T.s1.slope T'.s1.dual h
  have na := T.s1.nn.1
  have hb' : b'.1 < a'.1 := by
    rw [T'.e1]
    have := Rat.mul_pos (show 0 < a'.1 by grind) (show 0 < 1 - d by grind)
    grind
  obtain ⟨s', s0', ks'⟩ := T'.s2.slope T'.s1.dual hb'
  have w1 := ks a' T'.s1.dual
  have w2 := ks b T.s2.dual
  have w3 := ks b' T'.s2.dual
  have v1 := ks' a T.s1.dual
  have v2 := ks' b T.s2.dual
  have v3 := ks' a' T'.s1.dual
  have eb := T.e1
  have eb' := T'.e1
  have ea := T.e2
  have ea' := T'.e2
  have hX : 0 < a'.1 - a.1 := by grind
  have hde : 0 < 1 - e * d := by
    have := Rat.mul_pos e0 (show 0 < 1 - d by grind)
    grind
  have done : s = 0 → False := fun z => by
    refine flat_no e0 e1 T g fun y hy => ?_
    have := ks y hy
    rw [z] at this
    grind
  refine done ?_
  have dX : b'.1 - b.1 = d * (a'.1 - a.1) := by grind
  have key : a.2 - a'.2 = e * (b.2 - b'.2) := by grind
  rcases (show b'.1 < a.1 ∨ b'.1 = a.1 ∨ a.1 < b'.1 by grind) with c | c | c
  · -- the two stretches lie apart
    have hss : s' ≤ s := by
      have : s' * (a.1 - b'.1) ≤ s * (a.1 - b'.1) := by grind
      exact Rat.le_of_mul_le_mul_right this (by grind)
    have k1 : s * (a'.1 - a.1) ≤ e * (s' * (d * (a'.1 - a.1))) := by
      have : b.2 - b'.2 ≤ s' * (b'.1 - b.1) := by grind
      have := Rat.mul_le_mul_of_nonneg_left this (Rat.le_of_lt e0)
      rw [dX] at this
      grind
    have k2 : s ≤ e * d * s' := Rat.le_of_mul_le_mul_right (show s * (a'.1 - a.1) ≤ e * d * s' * (a'.1 - a.1) by grind) hX
    have k3 := Rat.mul_le_mul_of_nonneg_left hss (Rat.le_of_lt (Rat.mul_pos e0 d0))
    have k4 : s * (1 - e * d) ≤ 0 := by grind
    have := np_of hde k4
    exact Rat.le_antisymm this s0
  · have hy : b'.2 = a.2 := by
      have p1 : b'.2 ≤ a.2 := by rw [c] at w3; grind
      have p2 : a.2 ≤ b'.2 := by rw [← c] at v1; grind
      exact Rat.le_antisymm p1 p2
    have k0 : b.2 - b'.2 ≤ s * (d * (a'.1 - a.1)) := by
      have : s * (b'.1 - b.1) = s * (d * (a'.1 - a.1)) := by rw [dX]
      rw [c] at this
      rw [← this, hy]
      grind
    have k1 := Rat.mul_le_mul_of_nonneg_left k0 (Rat.le_of_lt e0)
    have k2 : s * (a'.1 - a.1) ≤ a.2 - a'.2 := by grind
    have k3 : s ≤ e * d * s := Rat.le_of_mul_le_mul_right (show s * (a'.1 - a.1) ≤ e * d * s * (a'.1 - a.1) by grind) hX
    have k4 : s * (1 - e * d) ≤ 0 := by grind
    exact Rat.le_antisymm (np_of hde k4) s0
  · have hss : s ≤ s' := by
      have : s * (b'.1 - a.1) ≤ s' * (b'.1 - a.1) := by grind
      exact Rat.le_of_mul_le_mul_right this (by grind)
    -- M = a.2 - b'.2
    have hM : 0 ≤ a.2 - b'.2 := by
      have := Rat.mul_nonneg s0 (show 0 ≤ b'.1 - a.1 by grind)
      grind
    have q1 : b.2 - b'.2 ≤ s * (a.1 - b.1) + (a.2 - b'.2) := by grind
    have q2 : (a.2 - b'.2) + s' * (a'.1 - b'.1) ≤ a.2 - a'.2 := by grind
    have q3 := Rat.mul_le_mul_of_nonneg_left q1 (Rat.le_of_lt e0)
    have r1 : a.1 - b.1 = (1 - d) * a.1 := by grind
    have r2 : a'.1 - b'.1 = (1 - d) * a'.1 := by grind
    have q4 : (a.2 - b'.2) + s' * ((1 - d) * a'.1) ≤ e * (s * ((1 - d) * a.1) + (a.2 - b'.2)) := by
      rw [← r1, ← r2]
      grind
    have nd := Rat.mul_nonneg (show 0 ≤ 1 - d by grind) na
    have q5 := Rat.mul_le_mul_of_nonneg_right hss nd
    have q6 := Rat.mul_le_mul_of_nonneg_left q5 (Rat.le_of_lt e0)
    have q7 := Rat.mul_nonneg hM (show 0 ≤ 1 - e by grind)
    have q8 : s' * ((1 - d) * a'.1) ≤ e * (s' * ((1 - d) * a.1)) := by grind
    have pos : 0 < (1 - d) * (a'.1 - e * a.1) := by
      refine Rat.mul_pos (by grind) ?_
      have := Rat.mul_nonneg na (show 0 ≤ 1 - e by grind)
      grind
    have q9 : s' * ((1 - d) * (a'.1 - e * a.1)) ≤ 0 := by grind
    have := np_of pos q9
    exact Rat.le_antisymm (Rat.le_trans hss this) s0
theorem tk_one {D : Pt → Prop} {d e : Rat} {a b a' b' : Pt} (d0 : 0 < d) (d1 : d < 1) (e0 : 0 < e) (e1 : e < 1) (g1 : ∃ v, D v ∧ 0 < v.1) (g : ∃ v, D v ∧ 0 < v.2) (T : Tk D d e a b) (T' : Tk D d e a' b') : a = a' ∧ b = b' := by
  have k1 := tk_le d0 d1 e0 e1 g T T'
  have k2 := tk_le d0 d1 e0 e1 g T' T
  have ea : a.1 = a'.1 := by grind
  have eb : b.1 = b'.1 := by rw [T.e1, T'.e1, ea]
  have far : ∃ y, Dual D y ∧ b.1 < y.1 := by
    have na := T.s1.nn.1
    rcases (show a.1 = 0 ∨ 0 < a.1 by grind) with q | q
    · obtain ⟨v, hv, hp⟩ := g1
      refine ⟨v, dual_mem hv, ?_⟩
      rw [T.e1, q]
      grind
    · refine ⟨a, T.s1.dual, ?_⟩
      have := Rat.mul_pos q (show 0 < 1 - d by grind)
      have := T.e1
      grind
  obtain ⟨y, hy, hlt⟩ := far
  obtain ⟨s, _, ks⟩ := T.s2.slope hy hlt
  obtain ⟨s', _, ks'⟩ := T'.s2.slope hy (by rw [← eb]; exact hlt)
  have p1 := ks b' T'.s2.dual
  have p2 := ks' b T.s2.dual
  have e2 : b.2 = b'.2 := by
    rw [eb] at p1 p2
    grind
  refine ⟨Prod.ext ea ?_, Prod.ext eb e2⟩
  rw [T.e2, T'.e2, e2]
theorem sup_dom {P : List Pt} (g : Good P) {z : Pt} (S : Sup (fun d => d ∈ P) z) : Sup (Dom P) z := by
  obtain ⟨m, n, hm, hn, hmn, k⟩ := S.nrm
  exact ⟨⟨m, n, hm, hn, hmn, dom_dual g hm hn k⟩, fun m n B hm hn hB => S.dual m n B hm hn fun d hd => hB d (.inr hd), S.nn⟩
/-- one pair of offers alone, whatever way it was found -/
theorem talk_one {P : List Pt} (g : Good P) {d e : Rat} (d0 : 0 < d) (d1 : d < 1) (e0 : 0 < e) (e1 : e < 1) {a b : Pt} (T : Tk (fun x => x ∈ P) d e a b) : talkOf P d e = (a, b) := by
  obtain ⟨v, hv, h1⟩ := g.g1
  obtain ⟨w, hw, h2⟩ := g.g2
  have T' : Tk (Dom P) d e a b := ⟨sup_dom g T.s1, sup_dom g T.s2, T.e1, T.e2⟩
  obtain ⟨k1, k2⟩ := tk_one d0 d1 e0 e1 ⟨v, .inr hv, h1⟩ ⟨w, .inr hw, h2⟩ (talk_spec g d0 d1 e0 e1) T'
  exact Prod.ext k1 k2
end My
set_option linter.all false
namespace My
open Ql88 (left rim parts along most most1 most2 meet nashOf partOf sameOf talkOf)
/-! ## a place on the ray, by what it keeps -/
theorem Ray.flat {D : Pt → Prop} {u v : Rat} {a z : Pt} (hv : 0 < v) (da : D a) (top : ∀ d, D d → d.2 ≤ a.2) (on : z.1 * v = z.2 * u) (e : z.2 = a.2) (le : z.1 ≤ a.1) : Ray D u v z := by
  refine ⟨on, ⟨0, 1, by decide, by decide, by grind, fun d hd => ?_⟩, fun m n B hm hn hB => ?_⟩
  · have := top d hd
    grind
  · have k := hB a da
    have := Rat.mul_nonneg hm (show 0 ≤ a.1 - z.1 by grind)
    rw [e]
    grind
theorem Ray.steep {D : Pt → Prop} {u v : Rat} {l z : Pt} (hu : 0 < u) (dl : D l) (top : ∀ d, D d → d.1 ≤ l.1) (on : z.1 * v = z.2 * u) (e : z.1 = l.1) (le : z.2 ≤ l.2) : Ray D u v z := by
  refine ⟨on, ⟨1, 0, by decide, by decide, by grind, fun d hd => ?_⟩, fun m n B hm hn hB => ?_⟩
  · have := top d hd
    grind
  · have k := hB l dl
    have := Rat.mul_nonneg hn (show 0 ≤ l.2 - z.2 by grind)
    rw [e]
    grind
theorem Ray.seg {D : Pt → Prop} {u v : Rat} (hu : 0 < u) (hv : 0 < v) {s : Pt × Pt} {z : Pt} {t : Rat} (S : Seg D s) (t0 : 0 ≤ t) (t1 : t ≤ 1) (ez : z = along s t) (on : z.1 * v = z.2 * u) : Ray D u v z := by
  subst ez
  obtain ⟨m, n, hm, hn, hmn, eq, k⟩ := S.nrm
  refine ⟨on, ⟨m, n, hm, hn, ?_, fun d hd => ?_⟩, fun m n B hm hn hB => ?_⟩
  · have p1 := Rat.mul_nonneg hm (Rat.le_of_lt hu)
    have p2 := Rat.mul_nonneg hn (Rat.le_of_lt hv)
    rcases hmn with q | q
    · have := Rat.mul_pos q hu
      grind
    · have := Rat.mul_pos q hv
      grind
  · have := k d hd
    have : m * (along s t).1 + n * (along s t).2 = m * s.1.1 + n * s.1.2 := by
      unfold along
      dsimp only
      have : m * (s.1.1 + t * (s.2.1 - s.1.1)) + n * (s.1.2 + t * (s.2.2 - s.1.2)) = (m * s.1.1 + n * s.1.2) + t * ((m * s.2.1 + n * s.2.2) - (m * s.1.1 + n * s.1.2)) := by grind
      rw [this, ← eq]; grind
    grind
  · have q1 := S.d1 m n B hm hn hB
    have q2 := S.d2 m n B hm hn hB
    have := mix t0 t1 q1 q2
    unfold along
    dsimp only
    grind
/-! ## the answers by their calls -/
theorem tells_2 {k : Int} {p : List Nat} {more : Bool} {is : Ql88.Corners → List Nat} (h : ¬ (1 ≤ k ∧ k ≤ 256) ∨ more = false) : Ql88.tells k p more is = { v := -2 } := by
  unfold Ql88.tells
  rw [if_pos]
  rcases h with h | h
  · refine .inl ?_
    unfold Ql88.between
    rw [Bool.and_eq_false_iff, decide_eq_false_iff_not, decide_eq_false_iff_not]
    omega
  · exact .inr h
theorem tells_1 {n : Nat} {k : Int} {p : List Int} {is : Ql88.Corners → List Nat} (h1 : 1 ≤ k) (h2 : k ≤ 256) (hl : p.length = 2 * n) (h0 : ∀ x, x ∈ p → 0 ≤ x) (h : ¬ Worth (pairs p)) : Ql88.tells k (p.map Int.toNat) true is = { v := -1 } := by
  have b : Ql88.isCorners (p.map Int.toNat) = false := by
    rw [← Bool.not_eq_true, isCorners_iff hl h0]
    exact fun z => h ⟨z.1, z.2.1, z.2.2⟩
  unfold Ql88.tells
  rw [if_neg (by rw [between_ok h1 h2]; simp), if_pos b]
theorem tells_0 {n : Nat} {k : Int} {p : List Int} {is : Ql88.Corners → List Nat} (h1 : 1 ≤ k) (h2 : k ≤ 256) (hl : p.length = 2 * n) (h0 : ∀ x, x ∈ p → 0 ≤ x) (h : Worth (pairs p)) : Ql88.tells k (p.map Int.toNat) true is = ⟨0, is ((pairs p).map toR)⟩ := by
  have b : Ql88.isCorners (p.map Int.toNat) = true := (isCorners_iff hl h0).mpr ⟨h.small, h.some1, h.some2⟩
  unfold Ql88.tells
  rw [if_neg (by rw [between_ok h1 h2]; simp), if_neg (by rw [b]; simp), corners_pairs h0]
def toInts (l : List Nat) : List Int := l.map fun (x : Nat) => (x : Int)
theorem part_2 {k : Int} {p : List Int} (h : ¬ (1 ≤ k ∧ k ≤ 256)) : PyQl88.part k p = [-2] := by
  show (Ql88.tells k (p.map Int.toNat) true (fun P => Ql88.pair (partOf P))).v :: toInts (Ql88.tells k (p.map Int.toNat) true (fun P => Ql88.pair (partOf P))).out = _
  rw [tells_2 (.inl h)]
  rfl
theorem part_1 {n : Nat} {k : Int} {p : List Int} (h1 : 1 ≤ k) (h2 : k ≤ 256) (hl : p.length = 2 * n) (h0 : ∀ x, x ∈ p → 0 ≤ x) (h : ¬ Worth (pairs p)) : PyQl88.part k p = [-1] := by
  show (Ql88.tells k (p.map Int.toNat) true (fun P => Ql88.pair (partOf P))).v :: toInts (Ql88.tells k (p.map Int.toNat) true (fun P => Ql88.pair (partOf P))).out = _
  rw [tells_1 h1 h2 hl h0 h]
  rfl
theorem part_0 {n : Nat} {k : Int} {p : List Int} (h1 : 1 ≤ k) (h2 : k ≤ 256) (hl : p.length = 2 * n) (h0 : ∀ x, x ∈ p → 0 ≤ x) (h : Worth (pairs p)) : PyQl88.part k p = 0 :: toInts (Ql88.pair (partOf ((pairs p).map toR))) := by
  show (Ql88.tells k (p.map Int.toNat) true (fun P => Ql88.pair (partOf P))).v :: toInts (Ql88.tells k (p.map Int.toNat) true (fun P => Ql88.pair (partOf P))).out = _
  rw [tells_0 h1 h2 hl h0 h]
theorem same_2 {k : Int} {p : List Int} (h : ¬ (1 ≤ k ∧ k ≤ 256)) : PyQl88.same k p = [-2] := by
  show (Ql88.tells k (p.map Int.toNat) true (fun P => Ql88.pair (sameOf P))).v :: toInts (Ql88.tells k (p.map Int.toNat) true (fun P => Ql88.pair (sameOf P))).out = _
  rw [tells_2 (.inl h)]
  rfl
theorem same_1 {n : Nat} {k : Int} {p : List Int} (h1 : 1 ≤ k) (h2 : k ≤ 256) (hl : p.length = 2 * n) (h0 : ∀ x, x ∈ p → 0 ≤ x) (h : ¬ Worth (pairs p)) : PyQl88.same k p = [-1] := by
  show (Ql88.tells k (p.map Int.toNat) true (fun P => Ql88.pair (sameOf P))).v :: toInts (Ql88.tells k (p.map Int.toNat) true (fun P => Ql88.pair (sameOf P))).out = _
  rw [tells_1 h1 h2 hl h0 h]
  rfl
theorem same_0 {n : Nat} {k : Int} {p : List Int} (h1 : 1 ≤ k) (h2 : k ≤ 256) (hl : p.length = 2 * n) (h0 : ∀ x, x ∈ p → 0 ≤ x) (h : Worth (pairs p)) : PyQl88.same k p = 0 :: toInts (Ql88.pair (sameOf ((pairs p).map toR))) := by
  show (Ql88.tells k (p.map Int.toNat) true (fun P => Ql88.pair (sameOf P))).v :: toInts (Ql88.tells k (p.map Int.toNat) true (fun P => Ql88.pair (sameOf P))).out = _
  rw [tells_0 h1 h2 hl h0 h]
/-- what waiting leaves, as the document lets it be -/
def Pat (a b : Int) : Prop := 1 ≤ a ∧ a ≤ b - 1 ∧ b ≤ 1000
theorem isPatience_iff (a b : Int) : Ql88.isPatience (a, b) = true ↔ Pat a b := by
  unfold Ql88.isPatience Pat
  rw [Bool.and_eq_true, Bool.and_eq_true, decide_eq_true_iff, decide_eq_true_iff, decide_eq_true_iff]
  dsimp only
  omega
abbrev talkIs (a b c d : Int) : Ql88.Corners → List Nat := fun P => let x := talkOf P (Ql88.patience (a, b)) (Ql88.patience (c, d)); Ql88.pair x.1 ++ Ql88.pair x.2
theorem talk_2 {k a b c d : Int} {p : List Int} (h : ¬ ((1 ≤ k ∧ k ≤ 256) ∧ Pat a b ∧ Pat c d)) : PyQl88.talk k a b c d p = [-2] := by
  show (Ql88.tells k (p.map Int.toNat) (Ql88.isPatience (a, b) && Ql88.isPatience (c, d)) (talkIs a b c d)).v :: toInts (Ql88.tells k (p.map Int.toNat) (Ql88.isPatience (a, b) && Ql88.isPatience (c, d)) (talkIs a b c d)).out = _
  rw [tells_2]
  · rfl
  · by_cases hk : 1 ≤ k ∧ k ≤ 256
    · refine .inr ?_
      rw [← Bool.not_eq_true, Bool.and_eq_true, isPatience_iff, isPatience_iff]
      exact fun z => h ⟨hk, z⟩
    · exact .inl hk
theorem talk_1 {n : Nat} {k a b c d : Int} {p : List Int} (h1 : 1 ≤ k) (h2 : k ≤ 256) (q1 : Pat a b) (q2 : Pat c d) (hl : p.length = 2 * n) (h0 : ∀ x, x ∈ p → 0 ≤ x) (h : ¬ Worth (pairs p)) : PyQl88.talk k a b c d p = [-1] := by
  show (Ql88.tells k (p.map Int.toNat) (Ql88.isPatience (a, b) && Ql88.isPatience (c, d)) (talkIs a b c d)).v :: toInts (Ql88.tells k (p.map Int.toNat) (Ql88.isPatience (a, b) && Ql88.isPatience (c, d)) (talkIs a b c d)).out = _
  rw [(isPatience_iff a b).mpr q1, (isPatience_iff c d).mpr q2, Bool.and_self, tells_1 h1 h2 hl h0 h]
  rfl
theorem talk_0 {n : Nat} {k a b c d : Int} {p : List Int} (h1 : 1 ≤ k) (h2 : k ≤ 256) (q1 : Pat a b) (q2 : Pat c d) (hl : p.length = 2 * n) (h0 : ∀ x, x ∈ p → 0 ≤ x) (h : Worth (pairs p)) :
    PyQl88.talk k a b c d p = 0 :: toInts (talkIs a b c d ((pairs p).map toR)) := by
  show (Ql88.tells k (p.map Int.toNat) (Ql88.isPatience (a, b) && Ql88.isPatience (c, d)) (talkIs a b c d)).v :: toInts (Ql88.tells k (p.map Int.toNat) (Ql88.isPatience (a, b) && Ql88.isPatience (c, d)) (talkIs a b c d)).out = _
  rw [(isPatience_iff a b).mpr q1, (isPatience_iff c d).mpr q2, Bool.and_self, tells_0 h1 h2 hl h0 h]
/-! ## the most that each could have -/
theorem most1_int {P : List Pi} {m : Int} (hm : ∃ v, v ∈ P ∧ v.1 = m) (h0 : 0 ≤ m) (hle : ∀ v, v ∈ P → v.1 ≤ m) : most1 (P.map toR) = (m : Rat) := by
  obtain ⟨v, hv, e⟩ := hm
  have k := most1_ge (P := P.map toR) (z := toR v) (List.mem_map.mpr ⟨v, hv, rfl⟩)
  have e1 : (toR v).1 = (m : Rat) := by rw [← e]; rfl
  rw [e1] at k
  refine Rat.le_antisymm ?_ k
  rcases most_mem ((P.map toR).map fun z => z.1) with q | q
  · have : most1 (P.map toR) = 0 := q
    rw [this]
    exact Rat.intCast_nonneg.mpr h0
  · obtain ⟨z, hz, ez⟩ := List.mem_map.mp q
    obtain ⟨w, hw, rfl⟩ := List.mem_map.mp hz
    have : most1 (P.map toR) = (toR w).1 := ez.symm
    rw [this]
    exact Rat.intCast_le_intCast.mpr (hle w hw)
theorem most2_int {P : List Pi} {m : Int} (hm : ∃ v, v ∈ P ∧ v.2 = m) (h0 : 0 ≤ m) (hle : ∀ v, v ∈ P → v.2 ≤ m) : most2 (P.map toR) = (m : Rat) := by
  obtain ⟨v, hv, e⟩ := hm
  have k := most2_ge (P := P.map toR) (z := toR v) (List.mem_map.mpr ⟨v, hv, rfl⟩)
  have e1 : (toR v).2 = (m : Rat) := by rw [← e]; rfl
  rw [e1] at k
  refine Rat.le_antisymm ?_ k
  rcases most_mem ((P.map toR).map fun z => z.2) with q | q
  · have : most2 (P.map toR) = 0 := q
    rw [this]
    exact Rat.intCast_nonneg.mpr h0
  · obtain ⟨z, hz, ez⟩ := List.mem_map.mp q
    obtain ⟨w, hw, rfl⟩ := List.mem_map.mp hz
    have : most2 (P.map toR) = (toR w).2 := ez.symm
    rw [this]
    exact Rat.intCast_le_intCast.mpr (hle w hw)
theorem good_of {P : List Pi} (nn : ∀ v, v ∈ P → 0 ≤ v.1 ∧ 0 ≤ v.2) (g1 : ∃ v, v ∈ P ∧ 0 < v.1) (g2 : ∃ v, v ∈ P ∧ 0 < v.2) : Good (P.map toR) := by
  obtain ⟨v1, hv1, p1⟩ := g1
  obtain ⟨v2, hv2, p2⟩ := g2
  refine ⟨fun v hv => ?_, ⟨toR v1, List.mem_map.mpr ⟨v1, hv1, rfl⟩, Rat.intCast_pos.mpr p1⟩, ⟨toR v2, List.mem_map.mpr ⟨v2, hv2, rfl⟩, Rat.intCast_pos.mpr p2⟩⟩
  obtain ⟨x, hx, rfl⟩ := List.mem_map.mp hv
  exact ⟨Rat.intCast_nonneg.mpr (nn x hx).1, Rat.intCast_nonneg.mpr (nn x hx).2⟩
/-- what has the sorted corners' outline keeps -/
theorem outline_fc {P cs : List Pi} (hne : cs ≠ []) (hp : cs.Perm P) (hs : cs.Pairwise LexI) :
    FC (fun d => d ∈ P.map toR) ((cs.foldl pushI []).reverse.map toR) ∧ (∀ a s, (cs.foldl pushI []).reverse.map toR = a :: s → ∀ d, d ∈ P.map toR → d.2 ≤ a.2) ∧ ∀ v, v ∈ (cs.foldl pushI []).reverse → v ∈ P := by
  have F := outline_fine hne hs
  have e : (fun d => d ∈ cs.map toR) = fun d => d ∈ P.map toR := by
    funext d
    rw [(hp.map toR).mem_iff]
  rw [e] at F
  obtain ⟨f1, f2, f3⟩ := F.fc
  rw [← List.map_reverse] at f1 f2 f3
  refine ⟨f1, f2, fun v hv => ?_⟩
  have := f3 (toR v) (List.mem_map.mpr ⟨v, hv, rfl⟩)
  obtain ⟨x, hx, ex⟩ := List.mem_map.mp this
  have e1 : ((x.1 : Int) : Rat) = (v.1 : Rat) := congrArg Prod.fst ex
  have e2 : ((x.2 : Int) : Rat) = (v.2 : Rat) := congrArg Prod.snd ex
  rw [Rat.intCast_inj] at e1 e2
  have : x = v := Prod.ext e1 e2
  rw [← this]
  exact hx
end My
set_option linter.all false
namespace My
open Ql88 (left rim parts along most most1 most2 meet nashOf partOf sameOf talkOf)
/-! ## a place on the edge, by what it keeps -/
theorem Sup.flat {D : Pt → Prop} {a z : Pt} (da : D a) (top : ∀ d, D d → d.2 ≤ a.2) (e : z.2 = a.2) (le : z.1 ≤ a.1) (n1 : 0 ≤ z.1) (n2 : 0 ≤ z.2) : Sup D z := by
  refine ⟨⟨0, 1, by decide, by decide, .inr (by decide), fun d hd => ?_⟩, fun m n B hm hn hB => ?_, n1, n2⟩
  · have := top d hd
    grind
  · have k := hB a da
    have := Rat.mul_nonneg hm (show 0 ≤ a.1 - z.1 by grind)
    rw [e]
    grind
theorem Sup.steep {D : Pt → Prop} {l z : Pt} (dl : D l) (top : ∀ d, D d → d.1 ≤ l.1) (e : z.1 = l.1) (le : z.2 ≤ l.2) (n1 : 0 ≤ z.1) (n2 : 0 ≤ z.2) : Sup D z := by
  refine ⟨⟨1, 0, by decide, by decide, .inl (by decide), fun d hd => ?_⟩, fun m n B hm hn hB => ?_, n1, n2⟩
  · have := top d hd
    grind
  · have k := hB l dl
    have := Rat.mul_nonneg hn (show 0 ≤ l.2 - z.2 by grind)
    rw [e]
    grind
theorem Sup.seg {D : Pt → Prop} {s : Pt × Pt} {z : Pt} {t : Rat} (S : Seg D s) (t0 : 0 ≤ t) (t1 : t ≤ 1) (ez : z = along s t) (n1 : 0 ≤ z.1) (n2 : 0 ≤ z.2) : Sup D z := by
  subst ez
  obtain ⟨m, n, hm, hn, hmn, eq, k⟩ := S.nrm
  refine ⟨⟨m, n, hm, hn, hmn, fun d hd => ?_⟩, fun m n B hm hn hB => ?_, n1, n2⟩
  · have := k d hd
    have : m * (along s t).1 + n * (along s t).2 = m * s.1.1 + n * s.1.2 := by
      unfold along
      dsimp only
      have : m * (s.1.1 + t * (s.2.1 - s.1.1)) + n * (s.1.2 + t * (s.2.2 - s.1.2)) = (m * s.1.1 + n * s.1.2) + t * ((m * s.2.1 + n * s.2.2) - (m * s.1.1 + n * s.1.2)) := by grind
      rw [this, ← eq]; grind
    grind
  · have q1 := S.d1 m n B hm hn hB
    have q2 := S.d2 m n B hm hn hB
    have := mix t0 t1 q1 q2
    unfold along
    dsimp only
    grind
/-- between two places a and b of an edge's part, where z lies on their line, z's first number between theirs -/
theorem on_line {a b z : Pt} (h : a.1 < b.1) (h1 : a.1 ≤ z.1) (h2 : z.1 ≤ b.1) (on : (b.1 - a.1) * (z.2 - a.2) = (b.2 - a.2) * (z.1 - a.1)) : ∃ t, 0 ≤ t ∧ t ≤ 1 ∧ z = along (a, b) t := by
  have hd : 0 < b.1 - a.1 := by grind
  obtain ⟨t, ht⟩ : ∃ t, t * (b.1 - a.1) = z.1 - a.1 := ⟨(z.1 - a.1) / (b.1 - a.1), Rat.div_mul_cancel (by grind)⟩
  have t0 : 0 ≤ t := Rat.le_of_mul_le_mul_right (show 0 * (b.1 - a.1) ≤ t * (b.1 - a.1) by grind) hd
  have t1 : t ≤ 1 := Rat.le_of_mul_le_mul_right (show t * (b.1 - a.1) ≤ 1 * (b.1 - a.1) by grind) hd
  refine ⟨t, t0, t1, Prod.ext ?_ ?_⟩
  · unfold along
    dsimp only
    grind
  · unfold along
    dsimp only
    have e : z.2 * (b.1 - a.1) = (a.2 + t * (b.2 - a.2)) * (b.1 - a.1) := by
      have : t * (b.2 - a.2) * (b.1 - a.1) = (b.2 - a.2) * (t * (b.1 - a.1)) := by grind
      rw [Rat.add_mul, this, ht]
      grind
    exact Rat.le_antisymm (Rat.le_of_mul_le_mul_right (by rw [e]; exact Rat.le_refl) hd) (Rat.le_of_mul_le_mul_right (by rw [e]; exact Rat.le_refl) hd)
end My
set_option linter.all false
namespace My
open Ql88 (left rim parts along most most1 most2 meet nashOf partOf sameOf talkOf)
/-! ## a ray's crossing of a part between two corners -/
/-- fall * first + run * second, along a part -/
def reachI (a b : Pi) : Int := (a.2 - b.2) * a.1 + (b.1 - a.1) * a.2
def wholeI (u v : Int) (a b : Pi) : Int := (a.2 - b.2) * u + (b.1 - a.1) * v
theorem le_div {x y w : Rat} (hw : 0 < w) (h : x * w ≤ y) : x ≤ y / w := by
  refine Rat.le_of_mul_le_mul_right ?_ hw
  rw [Rat.div_mul_cancel (by grind)]
  exact h
theorem div_le {x y w : Rat} (hw : 0 < w) (h : y ≤ x * w) : y / w ≤ x := by
  refine Rat.le_of_mul_le_mul_right ?_ hw
  rw [Rat.div_mul_cancel (by grind)]
  exact h
theorem le_add_r {x y : Rat} (h : 0 ≤ y) : x ≤ x + y := by grind
theorem Ray.cut {D : Pt → Prop} {u v f r R W : Rat} {a b : Pt} (hu : 0 < u) (hv : 0 < v) (h1 : a.1 < b.1) (h2 : b.2 ≤ a.2) (h3 : ∀ d, D d → left a b d ≤ 0) (da : D a) (db : D b) (ca : a.1 * v ≤ a.2 * u) (cb : b.2 * u ≤ b.1 * v)
    (ef : f = a.2 - b.2) (er : r = b.1 - a.1) (eR : R = f * a.1 + r * a.2) (eW : W = f * u + r * v) : 0 < W ∧ Ray D u v (R * u / W, R * v / W) := by
  have hr : 0 < r := by grind
  have hf : 0 ≤ f := by grind
  have hW : 0 < W := by
    have p1 := Rat.mul_nonneg hf (Rat.le_of_lt hu)
    have p2 := Rat.mul_pos hr hv
    grind
  have eR2 : R = f * b.1 + r * b.2 := by grind
  have w1 : R * u / W * W = R * u := Rat.div_mul_cancel (by grind)
  have w2 : R * v / W * W = R * v := Rat.div_mul_cancel (by grind)
  have l1 : a.1 ≤ R * u / W := le_div hW (by
    have q := Rat.mul_nonneg (Rat.le_of_lt hr) (show 0 ≤ a.2 * u - a.1 * v by grind)
    have e : R * u = a.1 * W + r * (a.2 * u - a.1 * v) := by
      rw [eR, eW]
      grind
    rw [e]
    exact le_add_r q)
  have l2 : R * u / W ≤ b.1 := div_le hW (by
    have q := Rat.mul_nonneg (Rat.le_of_lt hr) (show 0 ≤ b.1 * v - b.2 * u by grind)
    have e : b.1 * W = R * u + r * (b.1 * v - b.2 * u) := by
      rw [eR2, eW]
      grind
    rw [e]
    exact le_add_r q)
  have can : ∀ {x y : Rat}, x * W = y * W → x = y := fun {x y} e => Rat.le_antisymm (Rat.le_of_mul_le_mul_right (by rw [e]; exact Rat.le_refl) hW) (Rat.le_of_mul_le_mul_right (by rw [e]; exact Rat.le_refl) hW)
  have hon : R * u / W * v = R * v / W * u := can (by
    have e1 : R * u / W * v * W = (R * u / W * W) * v := by grind
    have e2 : R * v / W * u * W = (R * v / W * W) * u := by grind
    rw [e1, e2, w1, w2]; grind)
  have hline : f * (R * u / W) + r * (R * v / W) = R := can (by
    have e1 : (f * (R * u / W) + r * (R * v / W)) * W = f * (R * u / W * W) + r * (R * v / W * W) := by grind
    rw [e1, w1, w2, eW]; grind)
  obtain ⟨t, t0, t1, et⟩ := on_line (a := a) (b := b) (z := (R * u / W, R * v / W)) h1 l1 l2 (by
    dsimp only
    rw [← er]
    have : b.2 - a.2 = - f := by grind
    rw [this]
    grind)
  exact ⟨hW, Ray.seg hu hv (seg_of h1 h2 h3 da db) t0 t1 et hon⟩
theorem pair_of {x y : Rat} {u l u2 l2 : Int} (hu : 0 ≤ u) (hl : 0 < l) (hu2 : 0 ≤ u2) (hl2 : 0 < l2) (e1 : x = (u : Rat) / (l : Rat)) (e2 : y = (u2 : Rat) / (l2 : Rat)) : frac u l ++ frac u2 l2 = toInts (Ql88.pair (x, y)) := by
  rw [frac_eq hu hl, frac_eq hu2 hl2]
  show _ = List.map _ (Ql88.fraction _ ++ Ql88.fraction _)
  rw [List.map_append, e1, e2]
theorem pair_one {u u2 : Int} (hu : 0 ≤ u) (hu2 : 0 ≤ u2) : frac u 1 ++ frac u2 1 = toInts (Ql88.pair ((u : Rat), (u2 : Rat))) := by
  rw [frac_one hu, frac_one hu2]
  show _ = List.map _ (Ql88.fraction _ ++ Ql88.fraction _)
  rw [List.map_append]
/-- the crossing, over whole numbers -/
theorem cutI {D : Pt → Prop} {u v : Int} {a b : Pi} (hu : 0 < u) (hv : 0 < v) (na : 0 ≤ a.1 ∧ 0 ≤ a.2) (h1 : (toR a).1 < (toR b).1) (h2 : (toR b).2 ≤ (toR a).2) (h3 : ∀ d, D d → left (toR a) (toR b) d ≤ 0) (da : D (toR a)) (db : D (toR b))
    (ca : a.1 * v ≤ a.2 * u) (cb : b.2 * u ≤ b.1 * v) : 0 < wholeI u v a b ∧ 0 ≤ reachI a b ∧ ∃ z : Pt, Ray D (u : Rat) (v : Rat) z ∧ frac (reachI a b * u) (wholeI u v a b) ++ frac (reachI a b * v) (wholeI u v a b) = toInts (Ql88.pair z) := by
  have i1 : a.1 < b.1 := Rat.intCast_lt_intCast.mp h1
  have i2 : b.2 ≤ a.2 := Rat.intCast_le_intCast.mp h2
  have ca' : (toR a).1 * (v : Rat) ≤ (toR a).2 * (u : Rat) := by
    have := Rat.intCast_le_intCast.mpr ca
    push_cast at this
    exact this
  have cb' : (toR b).2 * (u : Rat) ≤ (toR b).1 * (v : Rat) := by
    have := Rat.intCast_le_intCast.mpr cb
    push_cast at this
    exact this
  obtain ⟨hW, R⟩ := Ray.cut (D := D) (R := ((reachI a b : Int) : Rat)) (W := ((wholeI u v a b : Int) : Rat)) (Rat.intCast_pos.mpr hu) (Rat.intCast_pos.mpr hv) h1 h2 h3 da db ca' cb' rfl rfl (by unfold reachI toR; push_cast; rfl) (by unfold wholeI toR; push_cast; rfl)
  have hW' : 0 < wholeI u v a b := Rat.intCast_pos.mp hW
  have m1 := Int.mul_nonneg (show 0 ≤ a.2 - b.2 by omega) na.1
  have m2 := Int.mul_nonneg (show 0 ≤ b.1 - a.1 by omega) na.2
  have hR : 0 ≤ reachI a b := by unfold reachI; omega
  refine ⟨hW', hR, _, R, pair_of (Int.mul_nonneg hR (by omega)) hW' (Int.mul_nonneg hR (by omega)) hW' ?_ ?_⟩
  · push_cast; rfl
  · push_cast; rfl
/-! ## part: the walk to the one place -/
def ptI (u v : Int) : List Pi → List Int
  | a :: b :: r => if b.2 * u ≤ b.1 * v then frac (reachI a b * u) (wholeI u v a b) ++ frac (reachI a b * v) (wholeI u v a b) else ptI u v (b :: r)
  | _ => frac u 1 ++ frac v 1
theorem pt_ray {D : Pt → Prop} {u v : Int} (hu : 0 < u) (hv : 0 < v) (top : ∀ d, D d → d.2 ≤ (v : Rat)) : ∀ {a : Pi} {r : List Pi}, FC D ((a :: r).map toR) → (∀ x, x ∈ a :: r → D (toR x)) → (∀ x, x ∈ a :: r → 0 ≤ x.1 ∧ 0 ≤ x.2) →
    (∀ z, (a :: r).getLast? = some z → z.1 = u) → a.1 * v ≤ a.2 * u → ∃ z : Pt, Ray D (u : Rat) (v : Rat) z ∧ ptI u v (a :: r) = toInts (Ql88.pair z)
  | a, [], h, hm, hn, hl, ca => by
    have e1 : a.1 = u := hl a rfl
    have da := hm a (List.mem_cons_self ..)
    have t := top _ da
    have t' : a.2 ≤ v := Rat.intCast_le_intCast.mp t
    have e2 : a.2 = v := by
      rw [e1, Int.mul_comm] at ca
      have := Int.le_of_mul_le_mul_right ca hu
      omega
    refine ⟨toR a, Ray.flat (a := toR a) (Rat.intCast_pos.mpr hv) da (fun d hd => ?_) ?_ rfl Rat.le_refl, ?_⟩
    · show d.2 ≤ (a.2 : Rat)
      rw [e2]; exact top d hd
    · show (a.1 : Rat) * (v : Rat) = (a.2 : Rat) * (u : Rat)
      rw [e1, e2, Rat.mul_comm]
    · show frac u 1 ++ frac v 1 = _
      rw [pair_one (by omega) (by omega), ← e1, ← e2]
      rfl
  | a, b :: r, ⟨h1, h2, h3, h4⟩, hm, hn, hl, ca => by
    show ∃ z : Pt, Ray D (u : Rat) (v : Rat) z ∧ (if b.2 * u ≤ b.1 * v then frac (reachI a b * u) (wholeI u v a b) ++ frac (reachI a b * v) (wholeI u v a b) else ptI u v (b :: r)) = toInts (Ql88.pair z)
    by_cases c : b.2 * u ≤ b.1 * v
    · rw [if_pos c]
      exact (cutI hu hv (hn a (List.mem_cons_self ..)) h1 h2 h3 (hm a (List.mem_cons_self ..)) (hm b (List.mem_cons_of_mem _ (List.mem_cons_self ..))) ca c).2.2
    · rw [if_neg c]
      exact pt_ray hu hv top (a := b) (r := r) h4 (fun x hx => hm x (List.mem_cons_of_mem _ hx)) (fun x hx => hn x (List.mem_cons_of_mem _ hx)) (fun z hz => hl z (by simpa using hz)) (by omega)
def partI (l : List Pi) : List Int := ptI ((l.getLast?).getD (0, 0)).1 ((l.head?).getD (0, 0)).2 l
theorem partI_eq {l s : List Pi} {a z : Pi} (ea : l = a :: s) (ez : l.getLast? = some z) : partI l = ptI z.1 a.2 l := by
  unfold partI
  rw [ez, ea]
  rfl
theorem ptI_len (u v : Int) : ∀ (l : List Pi), (ptI u v l).length ≤ 4
  | [] => Nat.le_refl _
  | [a] => Nat.le_refl _
  | a :: b :: r => by
    unfold ptI
    split
    · exact Nat.le_refl _
    · exact ptI_len u v (b :: r)
theorem partI_len (l : List Pi) : (partI l).length ≤ 4 := ptI_len _ _ l
/-! ## the outline's ends are the most that each could have -/
structure Out (P l : List Pi) : Prop where
  fc : FC (fun d => d ∈ P.map toR) (l.map toR)
  top : ∀ a s, l = a :: s → ∀ v, v ∈ P → v.2 ≤ a.2
  last : ∀ z, l.getLast? = some z → ∀ v, v ∈ P → v.1 ≤ z.1
  mem : ∀ v, v ∈ l → v ∈ P
theorem out_of {P cs : List Pi} (hne : cs ≠ []) (hp : cs.Perm P) (hs : cs.Pairwise LexI) : Out P (cs.foldl pushI []).reverse := by
  obtain ⟨f1, f2, f3⟩ := outline_fc hne hp hs
  refine ⟨f1, fun a s e v hv => ?_, fun z hz v hv => ?_, f3⟩
  · have := f2 (toR a) (s.map toR) (by rw [e]; rfl) (toR v) (List.mem_map.mpr ⟨v, hv, rfl⟩)
    exact Rat.intCast_le_intCast.mp this
  · have := fc_last f1 (z := toR z) (by rw [List.getLast?_map, hz]; rfl) (toR v) (List.mem_map.mpr ⟨v, hv, rfl⟩)
    exact Rat.intCast_le_intCast.mp this
/-- the places of the two ends -/
theorem Out.ends {P l : List Pi} (O : Out P l) : ∃ a s z, l = a :: s ∧ l.getLast? = some z := by
  have h := O.fc
  match l, h with
  | a :: s, _ => exact ⟨a, s, (a :: s).getLast (by simp), rfl, List.getLast?_eq_getLast (by simp)⟩
  | [], h => exact h.elim
theorem part_due {P l : List Pi} (nn : ∀ v, v ∈ P → 0 ≤ v.1 ∧ 0 ≤ v.2) (g1 : ∃ v, v ∈ P ∧ 0 < v.1) (g2 : ∃ v, v ∈ P ∧ 0 < v.2) (O : Out P l) {a z : Pi} {s : List Pi} (ea : l = a :: s) (ez : l.getLast? = some z) :
    0 < z.1 ∧ 0 < a.2 ∧ ptI z.1 a.2 l = toInts (Ql88.pair (partOf (P.map toR))) := by
  obtain ⟨v1, hv1, p1⟩ := g1
  obtain ⟨v2, hv2, p2⟩ := g2
  have ma : a ∈ P := O.mem a (by rw [ea]; exact List.mem_cons_self ..)
  have mz : z ∈ P := O.mem z (List.mem_of_getLast? ez)
  have ta := O.top a s ea
  have tz := O.last z ez
  have hu : 0 < z.1 := by have := tz v1 hv1; omega
  have hv : 0 < a.2 := by have := ta v2 hv2; omega
  refine ⟨hu, hv, ?_⟩
  have em1 : most1 (P.map toR) = (z.1 : Rat) := most1_int ⟨z, mz, rfl⟩ (by omega) tz
  have em2 : most2 (P.map toR) = (a.2 : Rat) := most2_int ⟨a, ma, rfl⟩ (by omega) ta
  have hfc := O.fc
  rw [ea] at hfc
  obtain ⟨y, R, e⟩ := pt_ray (D := fun d => d ∈ P.map toR) (u := z.1) (v := a.2) hu hv (fun d hd => by
    obtain ⟨x, hx, rfl⟩ := List.mem_map.mp hd
    exact Rat.intCast_le_intCast.mpr (ta x hx)) (a := a) (r := s) hfc (fun x hx => List.mem_map.mpr ⟨x, O.mem x (by rw [ea]; exact hx), rfl⟩) (fun x hx => nn x (O.mem x (by rw [ea]; exact hx)))
    (fun q hq => by rw [← ea, ez] at hq; rw [Option.some.inj hq]) (by
      rw [Int.mul_comm]
      exact Int.mul_le_mul_of_nonneg_left (tz a ma) (by omega))
  rw [ea, e]
  have : partOf (P.map toR) = y := by
    show meet (P.map toR) (most1 (P.map toR)) (most2 (P.map toR)) = y
    rw [em1, em2]
    exact ray_one (good_of nn ⟨v1, hv1, p1⟩ ⟨v2, hv2, p2⟩) (Rat.intCast_pos.mpr hu) (Rat.intCast_pos.mpr hv) R
  rw [this]
end My
set_option linter.all false
namespace My
open Ql88 (left rim parts along most most1 most2 meet nashOf partOf sameOf talkOf)
/-! ## same: the ray on which both have the same -/
theorem flatI {D : Pt → Prop} {a : Pi} (n2 : 0 ≤ a.2) (da : D (toR a)) (top : ∀ d, D d → d.2 ≤ (toR a).2) (c : a.2 ≤ a.1) : ∃ z : Pt, Ray D 1 1 z ∧ frac a.2 1 ++ frac a.2 1 = toInts (Ql88.pair z) :=
  ⟨((a.2 : Rat), (a.2 : Rat)), Ray.flat (a := toR a) (by decide) da top rfl rfl (Rat.intCast_le_intCast.mpr c), pair_one n2 n2⟩
theorem steepI {D : Pt → Prop} {l : Pi} (n1 : 0 ≤ l.1) (dl : D (toR l)) (top : ∀ d, D d → d.1 ≤ (toR l).1) (c : l.1 ≤ l.2) : ∃ z : Pt, Ray D 1 1 z ∧ frac l.1 1 ++ frac l.1 1 = toInts (Ql88.pair z) :=
  ⟨((l.1 : Rat), (l.1 : Rat)), Ray.steep (l := toR l) (by decide) dl top rfl rfl (Rat.intCast_le_intCast.mpr c), pair_one n1 n1⟩
/-- between two corners: reach over fall and run -/
theorem cutS {D : Pt → Prop} {a b : Pi} (na : 0 ≤ a.1 ∧ 0 ≤ a.2) (h1 : (toR a).1 < (toR b).1) (h2 : (toR b).2 ≤ (toR a).2) (h3 : ∀ d, D d → left (toR a) (toR b) d ≤ 0) (da : D (toR a)) (db : D (toR b))
    (ca : a.1 ≤ a.2) (cb : b.2 ≤ b.1) : 0 < wholeI 1 1 a b ∧ 0 ≤ reachI a b ∧ ∃ z : Pt, Ray D 1 1 z ∧ frac (reachI a b) (wholeI 1 1 a b) ++ frac (reachI a b) (wholeI 1 1 a b) = toInts (Ql88.pair z) := by
  obtain ⟨p, q, z, R, e⟩ := cutI (D := D) (u := 1) (v := 1) (by decide) (by decide) na h1 h2 h3 da db (by omega) (by omega)
  rw [Int.mul_one] at e
  exact ⟨p, q, z, R, e⟩
theorem same_one {P : List Pi} (nn : ∀ v, v ∈ P → 0 ≤ v.1 ∧ 0 ≤ v.2) (g1 : ∃ v, v ∈ P ∧ 0 < v.1) (g2 : ∃ v, v ∈ P ∧ 0 < v.2) {z : Pt} (R : Ray (fun d => d ∈ P.map toR) 1 1 z) : sameOf (P.map toR) = z :=
  ray_one (good_of nn g1 g2) (by decide) (by decide) R
end My
set_option linter.all false
namespace My
open Ql88 (left rim parts along most most1 most2 meet nashOf partOf sameOf talkOf)
/-! ## talk: places on the edge, between corners that stand one behind the other, or beside the ends -/
theorem fc_next {D : Pt → Prop} : ∀ {L : List Pt} {i : Nat} {p q : Pt}, FC D L → L[i]? = some p → L[i + 1]? = some q → p.1 < q.1 ∧ q.2 ≤ p.2 ∧ ∀ d, D d → left p q d ≤ 0
  | [], _, _, _, h, _, _ => h.elim
  | [a], 0, p, q, _, _, h2 => by simp at h2
  | [a], i + 1, p, q, _, h1, _ => by simp at h1
  | a :: b :: r, 0, p, q, ⟨h1, h2, h3, _⟩, e1, e2 => by
    have e1 := Option.some.inj e1
    have e2 := Option.some.inj e2
    subst e1 e2
    exact ⟨h1, h2, h3⟩
  | a :: b :: r, i + 1, p, q, ⟨_, _, _, h4⟩, e1, e2 => fc_next (L := b :: r) (i := i) h4 e1 e2
/-- a place on the line between two corners of the outline -/
theorem sup_between {P l : List Pi} (O : Out P l) {i : Nat} {p q : Pi} (hp : l[i]? = some p) (hq : l[i + 1]? = some q) {z : Pt} (lo : (p.1 : Rat) ≤ z.1) (hi : z.1 ≤ (q.1 : Rat)) (n1 : 0 ≤ z.1) (n2 : 0 ≤ z.2)
    (on : ((p.2 - q.2 : Int) : Rat) * z.1 + ((q.1 - p.1 : Int) : Rat) * z.2 = ((reachI p q : Int) : Rat)) : Sup (fun d => d ∈ P.map toR) z := by
  obtain ⟨h1, h2, h3⟩ := fc_next (i := i) (p := toR p) (q := toR q) O.fc (by rw [List.getElem?_map, hp]; rfl) (by rw [List.getElem?_map, hq]; rfl)
  have dp : toR p ∈ P.map toR := List.mem_map.mpr ⟨p, O.mem p (List.mem_of_getElem? hp), rfl⟩
  have dq : toR q ∈ P.map toR := List.mem_map.mpr ⟨q, O.mem q (List.mem_of_getElem? hq), rfl⟩
  obtain ⟨t, t0, t1, et⟩ := on_line (a := toR p) (b := toR q) (z := z) h1 lo hi (by
    unfold reachI at on
    push_cast at on
    show ((q.1 : Rat) - (p.1 : Rat)) * (z.2 - (p.2 : Rat)) = ((q.2 : Rat) - (p.2 : Rat)) * (z.1 - (p.1 : Rat))
    grind)
  exact Sup.seg (seg_of h1 h2 h3 dp dq) t0 t1 et n1 n2
theorem sup_first {P l s : List Pi} {a : Pi} (O : Out P l) (e : l = a :: s) {z : Pt} (n1 : 0 ≤ z.1) (n2 : 0 ≤ z.2) (e2 : z.2 = (a.2 : Rat)) (le : z.1 ≤ (a.1 : Rat)) : Sup (fun d => d ∈ P.map toR) z :=
  Sup.flat (a := toR a) (List.mem_map.mpr ⟨a, O.mem a (by rw [e]; exact List.mem_cons_self ..), rfl⟩) (fun d hd => by
    obtain ⟨x, hx, rfl⟩ := List.mem_map.mp hd
    exact Rat.intCast_le_intCast.mpr (O.top a s e x hx)) e2 le n1 n2
theorem sup_last {P l : List Pi} {y : Pi} (O : Out P l) (e : l.getLast? = some y) {z : Pt} (n1 : 0 ≤ z.1) (n2 : 0 ≤ z.2) (e2 : z.1 = (y.1 : Rat)) (le : z.2 ≤ (y.2 : Rat)) : Sup (fun d => d ∈ P.map toR) z :=
  Sup.steep (l := toR y) (List.mem_map.mpr ⟨y, O.mem y (List.mem_of_getLast? e), rfl⟩) (fun d hd => by
    obtain ⟨x, hx, rfl⟩ := List.mem_map.mp hd
    exact Rat.intCast_le_intCast.mpr (O.last y e x hx)) e2 le n1 n2
theorem pat_rat {a b : Int} (h : Pat a b) : 0 < Ql88.patience (a, b) ∧ Ql88.patience (a, b) < 1 ∧ Ql88.patience (a, b) * (b : Rat) = (a : Rat) ∧ (0 : Rat) < (b : Rat) := by
  obtain ⟨h1, h2, h3⟩ := h
  have hb : (0 : Rat) < (b : Rat) := Rat.intCast_pos.mpr (by omega)
  have ha : (0 : Rat) < (a : Rat) := Rat.intCast_pos.mpr (by omega)
  have e : Ql88.patience (a, b) * (b : Rat) = (a : Rat) := Rat.div_mul_cancel (by grind)
  have hab : (a : Rat) < (b : Rat) := Rat.intCast_lt_intCast.mpr (by omega)
  refine ⟨?_, ?_, e, hb⟩
  · refine Rat.not_le.mp fun z => ?_
    have := Rat.mul_le_mul_of_nonneg_right z (Rat.le_of_lt hb)
    rw [e] at this
    grind
  · refine Rat.not_le.mp fun z => ?_
    have := Rat.mul_le_mul_of_nonneg_right z (Rat.le_of_lt hb)
    rw [e] at this
    grind
/-- two offers that keep what the document asks are those that are due -/
theorem talk_of {P : List Pi} (nn : ∀ v, v ∈ P → 0 ≤ v.1 ∧ 0 ≤ v.2) (g1 : ∃ v, v ∈ P ∧ 0 < v.1) (g2 : ∃ v, v ∈ P ∧ 0 < v.2) {a b c d : Int} (q1 : Pat a b) (q2 : Pat c d) {x y : Pt}
    (sx : Sup (fun d => d ∈ P.map toR) x) (sy : Sup (fun d => d ∈ P.map toR) y) (e1 : y.1 * (b : Rat) = (a : Rat) * x.1) (e2 : x.2 * (d : Rat) = (c : Rat) * y.2) :
    talkIs a b c d (P.map toR) = Ql88.pair x ++ Ql88.pair y := by
  obtain ⟨a0, a1, ea, hb⟩ := pat_rat q1
  obtain ⟨c0, c1, ec, hd⟩ := pat_rat q2
  have can : ∀ {w : Rat}, 0 < w → ∀ {x y : Rat}, x * w = y * w → x = y := fun {w} hw {x y} e => Rat.le_antisymm (Rat.le_of_mul_le_mul_right (by rw [e]; exact Rat.le_refl) hw) (Rat.le_of_mul_le_mul_right (by rw [e]; exact Rat.le_refl) hw)
  have T : Tk (fun d => d ∈ P.map toR) (Ql88.patience (a, b)) (Ql88.patience (c, d)) x y := ⟨sx, sy, can hb (by
    rw [e1, ← ea]
    grind), can hd (by
    rw [e2, ← ec]
    grind)⟩
  have k := talk_one (good_of nn g1 g2) a0 a1 c0 c1 T
  show Ql88.pair (talkOf (P.map toR) (Ql88.patience (a, b)) (Ql88.patience (c, d))).1 ++ Ql88.pair (talkOf (P.map toR) (Ql88.patience (a, b)) (Ql88.patience (c, d))).2 = _
  rw [k]
end My
set_option linter.all false
namespace My
open Ql88 (left rim parts along most most1 most2 meet nashOf partOf sameOf talkOf)
/-! ## the whole edge: the outline with its ends drawn out -/
def Under (a b : Pi) (d : Pt) : Prop := ((a.2 - b.2 : Int) : Rat) * d.1 + ((b.1 - a.1 : Int) : Rat) * d.2 ≤ ((reachI a b : Int) : Rat)
def EC (D : Pt → Prop) : List Pi → Prop
  | a :: b :: r => a.1 ≤ b.1 ∧ b.2 ≤ a.2 ∧ (∀ d, D d → Under a b d) ∧ EC D (b :: r)
  | _ => True
structure Edge (D : Pt → Prop) (E : List Pi) (t m : Int) : Prop where
  ec : EC D E
  first : ∃ s, E = (0, t) :: s
  last : E.getLast? = some (m, 0)
  ht : 0 < t
  hm : 0 < m
  sup : ∀ p, p ∈ E → Sup D (toR p)
  top1 : ∀ d, D d → d.1 ≤ (m : Rat)
  top2 : ∀ d, D d → d.2 ≤ (t : Rat)
def edgeI (l : List Pi) : List Pi := (0, ((l.head?).getD (0, 0)).2) :: (l ++ [(((l.getLast?).getD (0, 0)).1, 0)])
theorem edgeI_eq {l s : List Pi} {a z : Pi} (ea : l = a :: s) (ez : l.getLast? = some z) : edgeI l = (0, a.2) :: (l ++ [(z.1, 0)]) := by
  unfold edgeI
  rw [ez, ea]
  rfl
theorem under_left {a b : Pi} {d : Pt} (h : left (toR a) (toR b) d ≤ 0) : Under a b d := by
  unfold Under reachI
  unfold left toR at h
  dsimp only at h
  push_cast
  grind
theorem ec_last {D : Pt → Prop} : ∀ {a : Pi} {r : List Pi} {z : Pi}, FC D ((a :: r).map toR) → (∀ v, v ∈ a :: r → 0 ≤ v.2) → (a :: r).getLast? = some z → EC D (a :: r ++ [(z.1, 0)])
  | a, [], z, h, hn, ez => by
    have e : a = z := Option.some.inj ez
    subst e
    refine ⟨Int.le_refl _, hn a (List.mem_cons_self ..), fun d hd => ?_, trivial⟩
    have k : d.1 ≤ (a.1 : Rat) := h d hd
    have n : (0 : Rat) ≤ (a.2 : Rat) := Rat.intCast_nonneg.mpr (hn a (List.mem_cons_self ..))
    have := Rat.mul_le_mul_of_nonneg_left k n
    unfold Under reachI
    push_cast
    grind
  | a, b :: r, z, ⟨h1, h2, h3, h4⟩, hn, ez => by
    have i1 : a.1 < b.1 := Rat.intCast_lt_intCast.mp h1
    have i2 : b.2 ≤ a.2 := Rat.intCast_le_intCast.mp h2
    exact ⟨by omega, i2, fun d hd => under_left (h3 d hd), ec_last (a := b) (r := r) h4 (fun v hv => hn v (List.mem_cons_of_mem _ hv)) (by simpa using ez)⟩
theorem edge_of {P l s : List Pi} (nn : ∀ v, v ∈ P → 0 ≤ v.1 ∧ 0 ≤ v.2) (g1 : ∃ v, v ∈ P ∧ 0 < v.1) (g2 : ∃ v, v ∈ P ∧ 0 < v.2) (O : Out P l) {a z : Pi} (ea : l = a :: s) (ez : l.getLast? = some z) :
    Edge (fun d => d ∈ P.map toR) (edgeI l) a.2 z.1 := by
  obtain ⟨v1, hv1, p1⟩ := g1
  obtain ⟨v2, hv2, p2⟩ := g2
  have la : a ∈ l := by rw [ea]; exact List.mem_cons_self ..
  have lz : z ∈ l := List.mem_of_getLast? ez
  have ma : a ∈ P := O.mem a la
  have mz : z ∈ P := O.mem z lz
  have ta := O.top a s ea
  have tz := O.last z ez
  have hu : 0 < z.1 := by have := tz v1 hv1; omega
  have hv : 0 < a.2 := by have := ta v2 hv2; omega
  have t1 : ∀ d, d ∈ P.map toR → d.1 ≤ (z.1 : Rat) := fun d hd => by
    obtain ⟨x, hx, rfl⟩ := List.mem_map.mp hd
    exact Rat.intCast_le_intCast.mpr (tz x hx)
  have t2 : ∀ d, d ∈ P.map toR → d.2 ≤ (a.2 : Rat) := fun d hd => by
    obtain ⟨x, hx, rfl⟩ := List.mem_map.mp hd
    exact Rat.intCast_le_intCast.mpr (ta x hx)
  have ec := ec_last (D := fun d => d ∈ P.map toR) (a := a) (r := s) (z := z) (by rw [← ea]; exact O.fc) (fun v hv => (nn v (O.mem v (by rw [ea]; exact hv))).2) (by rw [← ea]; exact ez)
  rw [edgeI_eq ea ez]
  have na := nn a ma
  have nz := nn z mz
  refine ⟨?_, ⟨_, rfl⟩, ?_, hv, hu, fun p hp => ?_, t1, t2⟩
  · rw [ea]
    refine ⟨na.1, Int.le_refl _, fun d hd => ?_, ec⟩
    have k := t2 d hd
    have n : (0 : Rat) ≤ (a.1 : Rat) := Rat.intCast_nonneg.mpr na.1
    have := Rat.mul_le_mul_of_nonneg_left k n
    unfold Under reachI
    push_cast
    grind
  · rw [List.getLast?_cons, List.getLast?_append]
    rfl
  · rcases List.mem_cons.mp hp with rfl | hp
    · exact sup_first O ea Rat.le_refl (Rat.intCast_nonneg.mpr na.2) rfl (Rat.intCast_nonneg.mpr na.1)
    · rcases List.mem_append.mp hp with hp | hp
      · have np := nn p (O.mem p hp)
        obtain ⟨i, hi⟩ := List.mem_iff_getElem?.mp hp
        cases hq : l[i + 1]? with
        | some q =>
          refine sup_between O hi hq Rat.le_refl ?_ (Rat.intCast_nonneg.mpr np.1) (Rat.intCast_nonneg.mpr np.2) ?_
          · have k := (fc_next (i := i) (p := toR p) (q := toR q) O.fc (by rw [List.getElem?_map, hi]; rfl) (by rw [List.getElem?_map, hq]; rfl)).1
            exact Rat.le_of_lt k
          · unfold reachI toR
            push_cast
            rfl
        | none =>
          have e : p = z := by
            have h1 := List.getElem?_eq_none_iff.mp hq
            obtain ⟨h2, _⟩ := List.getElem?_eq_some_iff.mp hi
            rw [List.getLast?_eq_getElem?] at ez
            have h3 : l.length - 1 = i := by omega
            rw [h3, hi] at ez
            exact Option.some.inj ez
          subst e
          exact sup_last O ez (Rat.intCast_nonneg.mpr np.1) (Rat.intCast_nonneg.mpr np.2) rfl Rat.le_refl
      · have e := List.mem_singleton.mp hp
        subst e
        exact sup_last O ez (Rat.intCast_nonneg.mpr nz.1) Rat.le_refl rfl (Rat.intCast_nonneg.mpr nz.2)
theorem ec_next {D : Pt → Prop} : ∀ {E : List Pi} {i : Nat} {p q : Pi}, EC D E → E[i]? = some p → E[i + 1]? = some q → p.1 ≤ q.1 ∧ q.2 ≤ p.2 ∧ ∀ d, D d → Under p q d
  | [], _, _, _, h, e, _ => by simp at e
  | [a], 0, p, q, _, _, h2 => by simp at h2
  | [a], i + 1, p, q, _, h1, _ => by simp at h1
  | a :: b :: r, 0, p, q, ⟨h1, h2, h3, _⟩, e1, e2 => by
    have e1 := Option.some.inj e1
    have e2 := Option.some.inj e2
    subst e1 e2
    exact ⟨h1, h2, h3⟩
  | a :: b :: r, i + 1, p, q, ⟨_, _, _, h4⟩, e1, e2 => ec_next (E := b :: r) (i := i) h4 e1 e2
/-! ## the one place along the edge where what they have is as their shares are -/
def shI (u v : Int) : List Pi → List Int
  | a :: b :: r => if b.1 * v < b.2 * u then shI u v (b :: r) else frac (reachI a b * u) (wholeI u v a b) ++ frac (reachI a b * v) (wholeI u v a b)
  | _ => []
theorem shI_len (u v : Int) : ∀ (l : List Pi), (shI u v l).length ≤ 4
  | [] => Nat.zero_le _
  | [a] => Nat.zero_le _
  | a :: b :: r => by
    unfold shI
    split
    · exact shI_len u v (b :: r)
    · exact Nat.le_refl _
theorem Ray.shares {D : Pt → Prop} {u v f r R W : Rat} {a b : Pt} (da : Dual D a) (db : Dual D b) (hf : 0 ≤ f) (hr : 0 ≤ r) (hd : ∀ d, D d → f * d.1 + r * d.2 ≤ R) (ca : a.1 * v < a.2 * u) (cb : b.2 * u ≤ b.1 * v)
    (ef : f = a.2 - b.2) (er : r = b.1 - a.1) (eR : R = f * a.1 + r * a.2) (eW : W = f * u + r * v) : 0 < W ∧ Ray D u v (R * u / W, R * v / W) := by
  have eW2 : W = (a.2 * u - a.1 * v) + (b.1 * v - b.2 * u) := by rw [eW, ef, er]; grind
  have hW : 0 < W := by grind
  have w1 : R * u / W * W = R * u := Rat.div_mul_cancel (by grind)
  have w2 : R * v / W * W = R * v := Rat.div_mul_cancel (by grind)
  have can : ∀ {x y : Rat}, x * W = y * W → x = y := fun {x y} e => Rat.le_antisymm (Rat.le_of_mul_le_mul_right (by rw [e]; exact Rat.le_refl) hW) (Rat.le_of_mul_le_mul_right (by rw [e]; exact Rat.le_refl) hW)
  obtain ⟨t, ht⟩ : ∃ t, t * W = a.2 * u - a.1 * v := ⟨(a.2 * u - a.1 * v) / W, Rat.div_mul_cancel (by grind)⟩
  have t0 : 0 ≤ t := Rat.le_of_mul_le_mul_right (show 0 * W ≤ t * W by rw [ht]; grind) hW
  have t1 : t ≤ 1 := Rat.le_of_mul_le_mul_right (show t * W ≤ 1 * W by rw [ht]; grind) hW
  have z1 : R * u / W = a.1 + t * (b.1 - a.1) := can (by
    have : (a.1 + t * (b.1 - a.1)) * W = a.1 * W + (t * W) * (b.1 - a.1) := by grind
    rw [w1, this, ht, eR, eW, ef, er]; grind)
  have z2 : R * v / W = a.2 + t * (b.2 - a.2) := can (by
    have : (a.2 + t * (b.2 - a.2)) * W = a.2 * W + (t * W) * (b.2 - a.2) := by grind
    rw [w2, this, ht, eR, eW, ef, er]; grind)
  have hon : R * u / W * v = R * v / W * u := can (by
    have e1 : R * u / W * v * W = (R * u / W * W) * v := by grind
    have e2 : R * v / W * u * W = (R * v / W * W) * u := by grind
    rw [e1, e2, w1, w2]; grind)
  have hline : f * (R * u / W) + r * (R * v / W) = R := can (by
    have e1 : (f * (R * u / W) + r * (R * v / W)) * W = f * (R * u / W * W) + r * (R * v / W * W) := by grind
    rw [e1, w1, w2, eW]; grind)
  refine ⟨hW, hon, ⟨f, r, hf, hr, by rw [← eW]; exact hW, fun d hd' => ?_⟩, fun m n B hm hn hB => ?_⟩
  · dsimp only
    rw [hline]
    exact hd d hd'
  · have q1 := da m n B hm hn hB
    have q2 := db m n B hm hn hB
    have := mix t0 t1 q1 q2
    dsimp only
    rw [z1, z2]
    grind
theorem sh_ray {D : Pt → Prop} {u v : Int} (hu : 0 < u) (hv : 0 < v) : ∀ {a : Pi} {r : List Pi}, EC D (a :: r) → (∀ p, p ∈ a :: r → Sup D (toR p)) → a.1 * v < a.2 * u → (∀ z, (a :: r).getLast? = some z → z.2 * u ≤ z.1 * v) →
    ∃ z : Pt, Ray D (u : Rat) (v : Rat) z ∧ shI u v (a :: r) = toInts (Ql88.pair z)
  | a, [], _, _, ca, hl => by
    have := hl a rfl
    omega
  | a, b :: r, ⟨h1, h2, h3, h4⟩, hs, ca, hl => by
    show ∃ z : Pt, Ray D (u : Rat) (v : Rat) z ∧ (if b.1 * v < b.2 * u then shI u v (b :: r) else frac (reachI a b * u) (wholeI u v a b) ++ frac (reachI a b * v) (wholeI u v a b)) = toInts (Ql88.pair z)
    by_cases c : b.1 * v < b.2 * u
    · rw [if_pos c]
      exact sh_ray hu hv (a := b) (r := r) h4 (fun p hp => hs p (List.mem_cons_of_mem _ hp)) c (fun z hz => hl z (by simpa using hz))
    · rw [if_neg c]
      have sa := hs a (List.mem_cons_self ..)
      have sb := hs b (List.mem_cons_of_mem _ (List.mem_cons_self ..))
      have na : 0 ≤ a.1 ∧ 0 ≤ a.2 := ⟨Rat.intCast_nonneg.mp sa.nn.1, Rat.intCast_nonneg.mp sa.nn.2⟩
      have ca' : (toR a).1 * (v : Rat) < (toR a).2 * (u : Rat) := by
        have := Rat.intCast_lt_intCast.mpr ca
        push_cast at this
        exact this
      have cb' : (toR b).2 * (u : Rat) ≤ (toR b).1 * (v : Rat) := by
        have := Rat.intCast_le_intCast.mpr (Int.not_lt.mp c)
        push_cast at this
        exact this
      obtain ⟨hW, R⟩ := Ray.shares (D := D) (f := ((a.2 - b.2 : Int) : Rat)) (r := ((b.1 - a.1 : Int) : Rat)) (R := ((reachI a b : Int) : Rat)) (W := ((wholeI u v a b : Int) : Rat)) sa.dual sb.dual (Rat.intCast_nonneg.mpr (by omega)) (Rat.intCast_nonneg.mpr (by omega)) h3 ca' cb'
        (by unfold toR; push_cast; rfl) (by unfold toR; push_cast; rfl) (by unfold reachI toR; push_cast; rfl) (by unfold wholeI; push_cast; rfl)
      have hW' : 0 < wholeI u v a b := Rat.intCast_pos.mp hW
      have m1 := Int.mul_nonneg (show 0 ≤ a.2 - b.2 by omega) na.1
      have m2 := Int.mul_nonneg (show 0 ≤ b.1 - a.1 by omega) na.2
      have hR : 0 ≤ reachI a b := by unfold reachI; omega
      refine ⟨_, R, pair_of (Int.mul_nonneg hR (by omega)) hW' (Int.mul_nonneg hR (by omega)) hW' ?_ ?_⟩
      · push_cast; rfl
      · push_cast; rfl
theorem Edge.ray {D : Pt → Prop} {E : List Pi} {t m u v : Int} (h : Edge D E t m) (hu : 0 < u) (hv : 0 < v) : ∃ z : Pt, Ray D (u : Rat) (v : Rat) z ∧ shI u v E = toInts (Ql88.pair z) := by
  obtain ⟨s, e⟩ := h.first
  subst e
  refine sh_ray hu hv h.ec h.sup ?_ (fun z hz => ?_)
  · have := Int.mul_pos h.ht hu
    dsimp only
    omega
  · rw [h.last] at hz
    have e := Option.some.inj hz
    subst e
    have := Int.mul_pos h.hm hv
    dsimp only
    omega
theorem shares_part {P l s : List Pi} (nn : ∀ v, v ∈ P → 0 ≤ v.1 ∧ 0 ≤ v.2) (g1 : ∃ v, v ∈ P ∧ 0 < v.1) (g2 : ∃ v, v ∈ P ∧ 0 < v.2) (O : Out P l) {a z : Pi} (ea : l = a :: s) (ez : l.getLast? = some z) :
    shI z.1 a.2 (edgeI l) = toInts (Ql88.pair (partOf (P.map toR))) := by
  have X := edge_of nn g1 g2 O ea ez
  obtain ⟨y, R, e⟩ := X.ray X.hm X.ht
  have em1 : most1 (P.map toR) = (z.1 : Rat) := most1_int ⟨z, O.mem z (List.mem_of_getLast? ez), rfl⟩ (by have := X.hm; omega) (O.last z ez)
  have em2 : most2 (P.map toR) = (a.2 : Rat) := most2_int ⟨a, O.mem a (by rw [ea]; exact List.mem_cons_self ..), rfl⟩ (by have := X.ht; omega) (O.top a s ea)
  rw [e]
  have : partOf (P.map toR) = y := by
    show meet (P.map toR) (most1 (P.map toR)) (most2 (P.map toR)) = y
    rw [em1, em2]
    exact ray_one (good_of nn g1 g2) (Rat.intCast_pos.mpr X.hm) (Rat.intCast_pos.mpr X.ht) R
  rw [this]
theorem shares_same {P l : List Pi} (nn : ∀ v, v ∈ P → 0 ≤ v.1 ∧ 0 ≤ v.2) (g1 : ∃ v, v ∈ P ∧ 0 < v.1) (g2 : ∃ v, v ∈ P ∧ 0 < v.2) (O : Out P l) : shI 1 1 (edgeI l) = toInts (Ql88.pair (sameOf (P.map toR))) := by
  obtain ⟨a, s, z, ea, ez⟩ := O.ends
  have X := edge_of nn g1 g2 O ea ez
  obtain ⟨y, R, e⟩ := X.ray (u := 1) (v := 1) (by decide) (by decide)
  rw [e, same_one nn g1 g2 R]
end My
set_option linter.all false
namespace My
open Ql88 (left rim parts along most most1 most2 meet nashOf partOf sameOf talkOf)
/-! ## talk: how the two offers lie along the edge -/
theorem le_of_pos {x y c : Rat} (hc : 0 < c) (h : c * x ≤ c * y) : x ≤ y := by
  rw [Rat.mul_comm c x, Rat.mul_comm c y] at h
  exact Rat.le_of_mul_le_mul_right h hc
theorem nn_mul_le {x y c : Rat} (hc : 0 ≤ c) (h : x ≤ y) : c * x ≤ c * y := Rat.mul_le_mul_of_nonneg_left h hc
/-- a place further along the edge than an offer is within, drawn over -/
theorem far_in {a b c d x1 x2 y1 y2 e1 e2 u v f r R : Rat} (ha : 0 < a) (hab : a < b) (hc : 0 < c) (hcd : c < d) (h1 : b * y1 = a * x1) (h2 : d * x2 = c * y2) (nx1 : 0 ≤ x1) (ne2 : 0 ≤ e2)
    (hu : 0 ≤ u) (hv : 0 ≤ v) (huv : 0 < u ∨ 0 < v) (hf : 0 ≤ f) (hr : 0 ≤ r) (hy : f * y1 + r * y2 ≤ R) (he : f * e1 + r * e2 ≤ R) (ue : u * e1 + v * e2 ≤ u * x1 + v * x2) (uy : u * y1 + v * y2 ≤ u * x1 + v * x2)
    (l1 : x1 ≤ e1) (l2 : e2 ≤ x2) : a * c * f * e1 + b * d * r * e2 ≤ b * c * R := by
  have hb : 0 < b := by grind
  have hd : 0 < d := by grind
  have hbc : 0 < b * c := Rat.mul_pos hb hc
  have hac : 0 < a * c := Rat.mul_pos ha hc
  have hbd : 0 < b * d := Rat.mul_pos hb hd
  have hy' := nn_mul_le (Rat.le_of_lt hbc) hy
  have e1' : b * c * (f * y1 + r * y2) = a * c * f * x1 + b * d * r * x2 := by
    have p1 : b * c * (f * y1 + r * y2) = c * f * (b * y1) + b * r * (c * y2) := by grind
    rw [p1, h1, ← h2]; grind
  rw [e1'] at hy'
  by_cases q : a * c * f * (e1 - x1) ≤ b * d * r * (x2 - e2)
  · grind
  · have hp0 : 0 ≤ e1 - x1 := by grind
    have hq0 : 0 ≤ x2 - e2 := by grind
    have q' : b * d * r * (x2 - e2) < a * c * f * (e1 - x1) := Rat.not_le.mp q
    have z0 : 0 ≤ b * d * r * (x2 - e2) := Rat.mul_nonneg (Rat.mul_nonneg (Rat.le_of_lt hbd) hr) hq0
    have hp : 0 < e1 - x1 := by
      rcases (show e1 - x1 = 0 ∨ 0 < e1 - x1 by grind) with z | z
      · rw [z] at q'; grind
      · exact z
    have up : u * (e1 - x1) ≤ v * (x2 - e2) := by grind
    have hv0 : 0 < v := by
      rcases (show v = 0 ∨ 0 < v by grind) with z | z
      · subst z
        have hu0 : 0 < u := by grind
        have := Rat.mul_pos hu0 hp
        grind
      · exact z
    -- b d r u ≤ a c f v
    have k1 : b * d * r * u ≤ a * c * f * v := by
      refine Rat.le_of_mul_le_mul_right (c := e1 - x1) ?_ hp
      have s1 := nn_mul_le (Rat.mul_nonneg (Rat.le_of_lt hbd) hr) up
      have s2 := nn_mul_le (Rat.le_of_lt hv0) (Rat.le_of_lt q')
      grind
    have k2 : r * u ≤ f * v := by
      refine le_of_pos hbd ?_
      have hfv := Rat.mul_nonneg hf hv
      have s1 : a * c ≤ b * d := by
        have t1 := nn_mul_le (Rat.le_of_lt ha) (Rat.le_of_lt hcd)
        have t2 := Rat.mul_le_mul_of_nonneg_right (Rat.le_of_lt hab) (Rat.le_of_lt hd)
        grind
      have s2 := Rat.mul_le_mul_of_nonneg_right s1 hfv
      grind
    -- v b (d - c) x2 ≤ u c (b - a) x1
    have k3 : v * b * (d - c) * x2 ≤ u * c * (b - a) * x1 := by
      have s := nn_mul_le (Rat.le_of_lt hbc) uy
      have e : b * c * (u * y1 + v * y2) = u * c * (b * y1) + v * b * (c * y2) := by grind
      rw [e, h1, ← h2] at s
      grind
    have hdc : 0 ≤ d - c := by grind
    have hba : 0 ≤ b - a := by grind
    have k4 : r * b * (d - c) * e2 ≤ f * c * (b - a) * e1 := by
      refine le_of_pos hv0 ?_
      have s1 := nn_mul_le (Rat.mul_nonneg (Rat.mul_nonneg (Rat.mul_nonneg hr hv) (Rat.le_of_lt hb)) hdc) l2
      have s2 := nn_mul_le hr k3
      have s3 := Rat.mul_le_mul_of_nonneg_right k2 (Rat.mul_nonneg (Rat.mul_nonneg (Rat.le_of_lt hc) hba) nx1)
      have s4 := nn_mul_le (Rat.mul_nonneg (Rat.mul_nonneg (Rat.mul_nonneg hf hv) (Rat.le_of_lt hc)) hba) l1
      grind
    have he' := nn_mul_le (Rat.le_of_lt hbc) he
    grind
/-- an offer isn't further along the edge than a place that is within, drawn over -/
theorem not_far {a b c d x1 x2 y1 y2 e1 e2 u v f r : Rat} (ha : 0 < a) (hab : a < b) (hc : 0 < c) (hcd : c < d) (h1 : b * y1 = a * x1) (h2 : d * x2 = c * y2) (nx1 : 0 < x1) (nx2 : 0 < x2)
    (hu : 0 ≤ u) (hv : 0 ≤ v) (huv : 0 < u ∨ 0 < v) (hf : 0 ≤ f) (hr : 0 ≤ r) (hfr : 0 < f ∨ 0 < r) (tj : a * c * f * e1 + b * d * r * e2 ≤ b * c * (f * y1 + r * y2)) (te : a * c * u * e1 + b * d * v * e2 ≤ b * c * (u * e1 + v * e2))
    (xe : u * x1 + v * x2 ≤ u * e1 + v * e2) (xj : f * x1 + r * x2 ≤ f * y1 + r * y2) (l1 : e1 ≤ x1) (l2 : x2 ≤ e2) : e1 = x1 ∧ e2 = x2 := by
  have hb : 0 < b := by grind
  have hd : 0 < d := by grind
  have hbc : 0 < b * c := Rat.mul_pos hb hc
  have hac : 0 < a * c := Rat.mul_pos ha hc
  have hbd : 0 < b * d := Rat.mul_pos hb hd
  have hdc : 0 < d - c := by grind
  have hba : 0 < b - a := by grind
  have hp0 : 0 ≤ x1 - e1 := by grind
  have hq0 : 0 ≤ e2 - x2 := by grind
  have e1' : b * c * (f * y1 + r * y2) = a * c * f * x1 + b * d * r * x2 := by
    have p1 : b * c * (f * y1 + r * y2) = c * f * (b * y1) + b * r * (c * y2) := by grind
    rw [p1, h1, ← h2]; grind
  rw [e1'] at tj
  have k0 : b * d * r * (e2 - x2) ≤ a * c * f * (x1 - e1) := by grind
  have up : u * (x1 - e1) ≤ v * (e2 - x2) := by grind
  have k3 : f * c * (b - a) * x1 ≤ r * b * (d - c) * x2 := by
    have s := nn_mul_le (Rat.le_of_lt hbc) xj
    rw [e1'] at s
    grind
  have k4 : v * b * (d - c) * e2 ≤ u * c * (b - a) * e1 := by grind
  have hr0 : 0 < r := by
    rcases (show r = 0 ∨ 0 < r by grind) with z | z
    · subst z
      have hf0 : 0 < f := by grind
      have := Rat.mul_pos (Rat.mul_pos (Rat.mul_pos hf0 hc) hba) nx1
      grind
    · exact z
  rcases (show x1 - e1 = 0 ∨ 0 < x1 - e1 by grind) with z | hp
  · rw [z] at k0
    have : 0 < b * d * r := Rat.mul_pos hbd hr0
    have : e2 - x2 ≤ 0 := by
      refine le_of_pos this ?_
      grind
    exact ⟨by grind, by grind⟩
  · exfalso
    have hv0 : 0 < v := by
      rcases (show v = 0 ∨ 0 < v by grind) with z | z
      · subst z
        have hu0 : 0 < u := by grind
        have := Rat.mul_pos hu0 hp
        grind
      · exact z
    have k1 : b * d * r * u ≤ a * c * f * v := by
      refine Rat.le_of_mul_le_mul_right (c := x1 - e1) ?_ hp
      have s1 := nn_mul_le (Rat.mul_nonneg (Rat.le_of_lt hbd) hr) up
      have s2 := nn_mul_le (Rat.le_of_lt hv0) k0
      grind
    have hw : 0 < r * b * (d - c) * e2 := Rat.mul_pos (Rat.mul_pos (Rat.mul_pos hr0 hb) hdc) (by grind)
    have k5 : b * d * (r * b * (d - c) * e2) ≤ a * c * (f * c * (b - a) * x1) := by
      refine le_of_pos hv0 ?_
      have ce : 0 ≤ c * (b - a) := Rat.mul_nonneg (Rat.le_of_lt hc) (Rat.le_of_lt hba)
      have s1 := nn_mul_le (Rat.mul_nonneg (Rat.le_of_lt hbd) hr) k4
      -- e1 may be of any sign: bounded by x1
      have s2 := nn_mul_le (Rat.mul_nonneg (Rat.mul_nonneg (Rat.mul_nonneg (Rat.le_of_lt hbd) hr) hu) ce) l1
      have s3 := Rat.mul_le_mul_of_nonneg_right k1 (Rat.mul_nonneg ce (Rat.le_of_lt nx1))
      grind
    have k6 : a * c * (f * c * (b - a) * x1) ≤ a * c * (r * b * (d - c) * e2) := by
      refine nn_mul_le (Rat.le_of_lt hac) ?_
      have := nn_mul_le (Rat.mul_nonneg (Rat.mul_nonneg hr (Rat.le_of_lt hb)) (Rat.le_of_lt hdc)) l2
      grind
    have k7 : a * c < b * d := by
      have t1 := Rat.mul_lt_mul_of_pos_left hcd ha
      have t2 := Rat.mul_lt_mul_of_pos_right hab hd
      grind
    have k8 := Rat.mul_lt_mul_of_pos_right k7 hw
    grind
/-- between two places of the edge, and on the edge: on their line -/
theorem on_seg {m n f r s t : Rat} (hm : 0 ≤ m) (hn : 0 ≤ n) (hmn : 0 < m ∨ 0 < n) (s0 : 0 ≤ s) (sr : s ≤ r) (t0 : 0 ≤ t) (tf : t ≤ f) (h1 : n * t ≤ m * s) (h2 : m * (r - s) ≤ n * (f - t)) : r * t ≤ f * s := by
  rcases (show m = 0 ∨ 0 < m by grind) with z | hm0
  · subst z
    have hn0 : 0 < n := by grind
    have ht : t = 0 := by
      have : t ≤ 0 := le_of_pos hn0 (by grind)
      grind
    subst ht
    have := Rat.mul_nonneg tf s0
    grind
  · have p1 := Rat.mul_le_mul_of_nonneg_right h1 (show 0 ≤ f - t by grind)
    have p2 := Rat.mul_le_mul_of_nonneg_right h2 t0
    have : r * t - s * t ≤ f * s - s * t := le_of_pos hm0 (by grind)
    grind
end My
set_option linter.all false
namespace My
open Ql88 (left rim parts along most most1 most2 meet nashOf partOf sameOf talkOf)
/-! ## places on the edge stand one behind the other -/
theorem sup_order {D : Pt → Prop} {z e : Pt} (hz : Sup D z) (he : Sup D e) : (z.1 ≤ e.1 ∧ e.2 ≤ z.2) ∨ (e.1 ≤ z.1 ∧ z.2 ≤ e.2) := by
  have no : ∀ {z e : Pt}, Sup D z → Sup D e → z.1 < e.1 → e.2 ≤ z.2 := fun {z e} hz he h => by
    obtain ⟨m, n, hm, hn, hmn, k⟩ := hz.nrm
    have k2 := he.dual m n _ hm hn k
    refine Rat.not_lt.mp fun h2 => ?_
    rcases hmn with q | q
    · have p1 := Rat.mul_pos q (show 0 < e.1 - z.1 by grind)
      have p2 := Rat.mul_nonneg hn (show 0 ≤ e.2 - z.2 by grind)
      grind
    · have p1 := Rat.mul_nonneg hm (show 0 ≤ e.1 - z.1 by grind)
      have p2 := Rat.mul_pos q (show 0 < e.2 - z.2 by grind)
      grind
  rcases (show z.1 < e.1 ∨ e.1 < z.1 ∨ z.1 = e.1 by grind) with q | q | q
  · exact .inl ⟨Rat.le_of_lt q, no hz he q⟩
  · exact .inr ⟨Rat.le_of_lt q, no he hz q⟩
  · rcases (show e.2 ≤ z.2 ∨ z.2 ≤ e.2 by grind) with p | p
    · exact .inl ⟨by grind, p⟩
    · exact .inr ⟨by grind, p⟩
def Next (E : List Pi) (p q : Pi) : Prop := ∃ i, E[i]? = some p ∧ E[i + 1]? = some q
theorem Next.cons {E : List Pi} {a p q : Pi} (h : Next E p q) : Next (a :: E) p q := by
  obtain ⟨i, h1, h2⟩ := h
  exact ⟨i + 1, by simpa using h1, by simpa using h2⟩
/-- on a part of some length -/
def OnPart (E : List Pi) (z : Pt) : Prop := ∃ p q, Next E p q ∧ (0 < p.2 - q.2 ∨ 0 < q.1 - p.1) ∧ ((p.2 - q.2 : Int) : Rat) * z.1 + ((q.1 - p.1 : Int) : Rat) * z.2 = ((reachI p q : Int) : Rat)
theorem line_at {D : Pt → Prop} {p q : Pi} {z : Pt} (hz : Sup D z) (sp : Sup D (toR p)) (sq : Sup D (toR q)) (un : ∀ d, D d → Under p q d) (a1 : (p.1 : Rat) ≤ z.1) (a2 : z.2 ≤ (p.2 : Rat)) (b1 : z.1 ≤ (q.1 : Rat)) (b2 : (q.2 : Rat) ≤ z.2) :
    ((p.2 - q.2 : Int) : Rat) * z.1 + ((q.1 - p.1 : Int) : Rat) * z.2 = ((reachI p q : Int) : Rat) := by
  obtain ⟨m, n, hm, hn, hmn, k⟩ := hz.nrm
  have k1 : m * (p.1 : Rat) + n * (p.2 : Rat) ≤ m * z.1 + n * z.2 := sp.dual m n _ hm hn k
  have k2 : m * (q.1 : Rat) + n * (q.2 : Rat) ≤ m * z.1 + n * z.2 := sq.dual m n _ hm hn k
  have j1 : (p.1 : Rat) ≤ (q.1 : Rat) := Rat.le_trans a1 b1
  have j2 : (q.2 : Rat) ≤ (p.2 : Rat) := Rat.le_trans b2 a2
  have f0 : (0 : Rat) ≤ ((p.2 - q.2 : Int) : Rat) := by push_cast; grind
  have r0 : (0 : Rat) ≤ ((q.1 - p.1 : Int) : Rat) := by push_cast; grind
  have un' := hz.dual _ _ _ f0 r0 un
  have os := on_seg (m := m) (n := n) (f := ((p.2 - q.2 : Int) : Rat)) (r := ((q.1 - p.1 : Int) : Rat)) (s := z.1 - (p.1 : Rat)) (t := (p.2 : Rat) - z.2) hm hn hmn (by grind) (by push_cast; grind) (by grind) (by push_cast; grind) (by grind) (by push_cast; grind)
  refine Rat.le_antisymm un' ?_
  unfold reachI
  push_cast at os ⊢
  grind
theorem locate {D : Pt → Prop} {z : Pt} (hz : Sup D z) : ∀ {a : Pi} {r : List Pi}, EC D (a :: r) → (∀ p, p ∈ a :: r → Sup D (toR p)) → (a.1 : Rat) ≤ z.1 → z.2 ≤ (a.2 : Rat) → z ≠ toR a → (∀ y, (a :: r).getLast? = some y → z.1 ≤ (y.1 : Rat) ∧ (y.2 : Rat) ≤ z.2) →
    OnPart (a :: r) z
  | a, [], _, _, a1, a2, ne, hl => by
    obtain ⟨l1, l2⟩ := hl a rfl
    exact absurd (Prod.ext (Rat.le_antisymm l1 a1) (Rat.le_antisymm a2 l2)) ne
  | a, b :: r, ⟨h1, h2, h3, h4⟩, hs, a1, a2, ne, hl => by
    have sa := hs a (List.mem_cons_self ..)
    have sb := hs b (List.mem_cons_of_mem _ (List.mem_cons_self ..))
    by_cases c : z.1 ≤ (b.1 : Rat) ∧ (b.2 : Rat) ≤ z.2
    · refine ⟨a, b, ⟨0, rfl, rfl⟩, ?_, line_at hz sa sb h3 a1 a2 c.1 c.2⟩
      refine Classical.byContradiction fun no => ne ?_
      have i1 : a.1 = b.1 := by omega
      have i2 : a.2 = b.2 := by omega
      obtain ⟨c1, c2⟩ := c
      rw [← i1] at c1
      rw [← i2] at c2
      exact Prod.ext (Rat.le_antisymm c1 a1) (Rat.le_antisymm a2 c2)
    · have o : (b.1 : Rat) ≤ z.1 ∧ z.2 ≤ (b.2 : Rat) := by
        rcases sup_order hz sb with q | q
        · exact absurd q c
        · exact q
      obtain ⟨p, q, n, k⟩ := locate hz (a := b) (r := r) h4 (fun p hp => hs p (List.mem_cons_of_mem _ hp)) o.1 o.2 (fun e => c (by rw [e]; exact ⟨Rat.le_refl, Rat.le_refl⟩)) (fun y hy => hl y (by simpa using hy))
      exact ⟨p, q, n.cons, k⟩
theorem locate0 {D : Pt → Prop} : ∀ {a : Pi} {r : List Pi} {y : Pi}, EC D (a :: r) → (a :: r).getLast? = some y → y ≠ a → OnPart (a :: r) (toR a)
  | a, [], y, _, e, ne => absurd (Option.some.inj e).symm ne
  | a, b :: r, y, ⟨h1, h2, h3, h4⟩, e, ne => by
    by_cases c : a = b
    · subst c
      obtain ⟨p, q, n, k⟩ := locate0 (a := a) (r := r) h4 (by simpa using e) ne
      exact ⟨p, q, n.cons, k⟩
    · refine ⟨a, b, ⟨0, rfl, rfl⟩, ?_, ?_⟩
      · refine Classical.byContradiction fun no => c ?_
        exact Prod.ext (by omega) (by omega)
      · unfold reachI toR
        push_cast
        rfl
theorem Edge.bound {D : Pt → Prop} {E : List Pi} {t m : Int} (h : Edge D E t m) {z : Pt} (hz : Dual D z) : z.1 ≤ (m : Rat) ∧ z.2 ≤ (t : Rat) := by
  have k1 := hz 1 0 (m : Rat) (by decide) (by decide) (fun d hd => by have := h.top1 d hd; grind)
  have k2 := hz 0 1 (t : Rat) (by decide) (by decide) (fun d hd => by have := h.top2 d hd; grind)
  exact ⟨by grind, by grind⟩
theorem Edge.at {D : Pt → Prop} {E : List Pi} {t m : Int} (h : Edge D E t m) {z : Pt} (hz : Sup D z) : OnPart E z := by
  obtain ⟨s, e⟩ := h.first
  obtain ⟨k1, k2⟩ := h.bound hz.dual
  have ec := h.ec
  have su := h.sup
  have la := h.last
  have hm := h.hm
  have ht := h.ht
  subst e
  by_cases c : z = toR (0, t)
  · rw [c]
    refine locate0 ec la (fun e => ?_)
    have : m = 0 := congrArg Prod.fst e
    omega
  · exact locate hz ec su hz.nn.1 k2 c (fun y hy => by
      rw [la] at hy
      have e := Option.some.inj hy
      subst e
      exact ⟨k1, hz.nn.2⟩)
end My
set_option linter.all false
namespace My
open Ql88 (left rim parts along most most1 most2 meet nashOf partOf sameOf talkOf)
/-! ## talk: the edge drawn larger in two ways, and where the two meet -/
def scl (u v : Int) (p : Pi) : Pi := (p.1 * u, p.2 * v)
def BndI (e : Pi) (L : List Pi) : Prop := ∀ p q, Next L p q → (p.2 - q.2) * e.1 + (q.1 - p.1) * e.2 ≤ reachI p q
theorem next_map {E : List Pi} {g : Pi → Pi} {p q : Pi} : Next (E.map g) p q ↔ ∃ p' q', Next E p' q' ∧ p = g p' ∧ q = g q' := by
  constructor
  · rintro ⟨i, h1, h2⟩
    rw [List.getElem?_map] at h1 h2
    obtain ⟨p', e1, rfl⟩ := Option.map_eq_some_iff.mp h1
    obtain ⟨q', e2, rfl⟩ := Option.map_eq_some_iff.mp h2
    exact ⟨p', q', ⟨i, e1, e2⟩, rfl, rfl⟩
  · rintro ⟨p', q', ⟨i, e1, e2⟩, rfl, rfl⟩
    exact ⟨i, by rw [List.getElem?_map, e1]; rfl, by rw [List.getElem?_map, e2]; rfl⟩
theorem reach_scl (u v : Int) (p q : Pi) : reachI (scl u v p) (scl u v q) = u * v * reachI p q := by
  unfold reachI scl
  dsimp only
  grind
theorem bnd_scl {E : List Pi} {u v a d : Int} {e : Pi} : BndI (scl a d e) (E.map (scl u v)) ↔ ∀ p q, Next E p q → a * v * (p.2 - q.2) * e.1 + u * d * (q.1 - p.1) * e.2 ≤ u * v * reachI p q := by
  have key : ∀ p q : Pi, ((scl u v p).2 - (scl u v q).2) * (scl a d e).1 + ((scl u v q).1 - (scl u v p).1) * (scl a d e).2 = a * v * (p.2 - q.2) * e.1 + u * d * (q.1 - p.1) * e.2 := fun p q => by
    unfold scl
    dsimp only
    grind
  constructor
  · intro h p q n
    have := h _ _ (next_map.mpr ⟨p, q, n, rfl, rfl⟩)
    rw [key, reach_scl] at this
    exact this
  · intro h p q n
    obtain ⟨p', q', n', rfl, rfl⟩ := next_map.mp n
    rw [key, reach_scl]
    exact h p' q' n'
/-- what two offers keep -/
structure Offers (D : Pt → Prop) (a b c d : Int) (x y : Pt) : Prop where
  sx : Sup D x
  sy : Sup D y
  e1 : (b : Rat) * y.1 = (a : Rat) * x.1
  e2 : (d : Rat) * x.2 = (c : Rat) * y.2
section
variable {D : Pt → Prop} {E : List Pi} {t m a b c d : Int} {x y : Pt}
theorem pat4 (q : Pat a b) : (0 : Rat) < (a : Rat) ∧ (a : Rat) < (b : Rat) := ⟨Rat.intCast_pos.mpr (by have := q.1; omega), Rat.intCast_lt_intCast.mpr (by have := q.2.1; omega)⟩
theorem Offers.pos (h : Edge D E t m) (q1 : Pat a b) (q2 : Pat c d) (O : Offers D a b c d x y) : 0 < x.1 ∧ 0 < x.2 ∧ 0 < y.1 ∧ 0 < y.2 := by
  obtain ⟨ha, hab⟩ := pat4 q1
  obtain ⟨hc, hcd⟩ := pat4 q2
  obtain ⟨s, e⟩ := h.first
  have s0 := h.sup (0, t) (by rw [e]; exact List.mem_cons_self ..)
  have sl := h.sup (m, 0) (List.mem_of_getLast? h.last)
  have ht : (0 : Rat) < (t : Rat) := Rat.intCast_pos.mpr h.ht
  have hm : (0 : Rat) < (m : Rat) := Rat.intCast_pos.mpr h.hm
  obtain ⟨bx1, bx2⟩ := h.bound O.sx.dual
  obtain ⟨by1, by2⟩ := h.bound O.sy.dual
  have e1 := O.e1
  have e2 := O.e2
  have px : 0 < x.1 := by
    refine Rat.not_le.mp fun z => ?_
    have z0 : x.1 = 0 := Rat.le_antisymm z O.sx.nn.1
    obtain ⟨u, v, hu, hv, huv, k⟩ := O.sx.nrm
    have k1 : u * (m : Rat) + v * 0 ≤ u * x.1 + v * x.2 := sl.dual u v _ hu hv k
    have k2 : u * 0 + v * (t : Rat) ≤ u * x.1 + v * x.2 := s0.dual u v _ hu hv k
    rw [z0] at k1 k2
    rcases (show v = 0 ∨ 0 < v by grind) with q | q
    · subst q
      have := Rat.mul_pos (show 0 < u by grind) hm
      grind
    · have l : (t : Rat) ≤ x.2 := le_of_pos q (by grind)
      have p1 := nn_mul_le (Rat.le_of_lt hc) (Rat.le_trans by2 l)
      have p2 := Rat.mul_pos (show 0 < (d : Rat) - (c : Rat) by grind) (show 0 < x.2 by grind)
      grind
  have py : 0 < y.2 := by
    refine Rat.not_le.mp fun z => ?_
    have z0 : y.2 = 0 := Rat.le_antisymm z O.sy.nn.2
    obtain ⟨u, v, hu, hv, huv, k⟩ := O.sy.nrm
    have k1 : u * (m : Rat) + v * 0 ≤ u * y.1 + v * y.2 := sl.dual u v _ hu hv k
    have k2 : u * 0 + v * (t : Rat) ≤ u * y.1 + v * y.2 := s0.dual u v _ hu hv k
    rw [z0] at k1 k2
    rcases (show u = 0 ∨ 0 < u by grind) with q | q
    · subst q
      have := Rat.mul_pos (show 0 < v by grind) ht
      grind
    · have l : (m : Rat) ≤ y.1 := le_of_pos q (by grind)
      have p1 := nn_mul_le (Rat.le_of_lt ha) (Rat.le_trans bx1 l)
      have p2 := Rat.mul_pos (show 0 < (b : Rat) - (a : Rat) by grind) (show 0 < y.1 by grind)
      grind
  refine ⟨px, ?_, ?_, py⟩
  · refine Rat.not_le.mp fun z => ?_
    have := Rat.mul_pos hc py
    have := nn_mul_le (show 0 ≤ (d : Rat) by grind) z
    grind
  · refine Rat.not_le.mp fun z => ?_
    have := Rat.mul_pos ha px
    have := nn_mul_le (show 0 ≤ (b : Rat) by grind) z
    grind
theorem Next.mem1 {p q : Pi} (n : Next E p q) : p ∈ E := by
  obtain ⟨i, h1, _⟩ := n
  exact List.mem_of_getElem? h1
theorem Next.mem2 {p q : Pi} (n : Next E p q) : q ∈ E := by
  obtain ⟨i, _, h2⟩ := n
  exact List.mem_of_getElem? h2
theorem Edge.part (h : Edge D E t m) {p q : Pi} (n : Next E p q) : (0 : Rat) ≤ ((p.2 - q.2 : Int) : Rat) ∧ (0 : Rat) ≤ ((q.1 - p.1 : Int) : Rat) ∧ ∀ z, Dual D z → Under p q z := by
  obtain ⟨i, h1, h2⟩ := n
  obtain ⟨k1, k2, k3⟩ := ec_next h.ec h1 h2
  have f0 : (0 : Rat) ≤ ((p.2 - q.2 : Int) : Rat) := Rat.intCast_nonneg.mpr (by omega)
  have r0 : (0 : Rat) ≤ ((q.1 - p.1 : Int) : Rat) := Rat.intCast_nonneg.mpr (by omega)
  exact ⟨f0, r0, fun z hz => hz _ _ _ f0 r0 k3⟩
theorem pos_cast {p q : Pi} (h : 0 < p.2 - q.2 ∨ 0 < q.1 - p.1) : (0 : Rat) < ((p.2 - q.2 : Int) : Rat) ∨ (0 : Rat) < ((q.1 - p.1 : Int) : Rat) := h.imp Rat.intCast_pos.mpr Rat.intCast_pos.mpr
/-- within the wide one: in whole numbers and as fractions -/
theorem cast_le {A B C F G e1 e2 R : Int} : A * F * e1 + B * G * e2 ≤ C * R ↔ (A : Rat) * (F : Rat) * (e1 : Rat) + (B : Rat) * (G : Rat) * (e2 : Rat) ≤ (C : Rat) * (R : Rat) := by
  rw [← Rat.intCast_le_intCast]
  push_cast
  rfl
theorem high_far (h : Edge D E t m) (q1 : Pat a b) (q2 : Pat c d) (O : Offers D a b c d x y) {e : Pi} (he : e ∈ E) (l1 : x.1 ≤ (e.1 : Rat)) (l2 : (e.2 : Rat) ≤ x.2) : BndI (scl a d e) (E.map (scl b c)) := by
  obtain ⟨ha, hab⟩ := pat4 q1
  obtain ⟨hc, hcd⟩ := pat4 q2
  rw [bnd_scl]
  intro p q n
  obtain ⟨f0, r0, un⟩ := h.part n
  have se := h.sup e he
  obtain ⟨u, v, hu, hv, huv, k⟩ := O.sx.nrm
  have := far_in (a := (a : Rat)) (b := (b : Rat)) (c := (c : Rat)) (d := (d : Rat)) (e1 := (e.1 : Rat)) (e2 := (e.2 : Rat)) ha hab hc hcd O.e1 O.e2 O.sx.nn.1 se.nn.2 hu hv huv f0 r0 (un _ O.sy.dual) (un _ se.dual) (se.dual u v _ hu hv k) (O.sy.dual u v _ hu hv k) l1 l2
  rw [cast_le]
  push_cast at this ⊢
  exact this
theorem wide_far (h : Edge D E t m) (q1 : Pat a b) (q2 : Pat c d) (O : Offers D a b c d x y) {e : Pi} (he : e ∈ E) (l1 : (e.1 : Rat) ≤ y.1) (l2 : y.2 ≤ (e.2 : Rat)) : BndI (scl b c e) (E.map (scl a d)) := by
  obtain ⟨ha, hab⟩ := pat4 q1
  obtain ⟨hc, hcd⟩ := pat4 q2
  rw [bnd_scl]
  intro p q n
  obtain ⟨f0, r0, un⟩ := h.part n
  have se := h.sup e he
  obtain ⟨u, v, hu, hv, huv, k⟩ := O.sy.nrm
  have w1 : ((p.2 - q.2 : Int) : Rat) * x.1 + ((q.1 - p.1 : Int) : Rat) * x.2 ≤ ((reachI p q : Int) : Rat) := un _ O.sx.dual
  have w2 : ((p.2 - q.2 : Int) : Rat) * (e.1 : Rat) + ((q.1 - p.1 : Int) : Rat) * (e.2 : Rat) ≤ ((reachI p q : Int) : Rat) := un _ se.dual
  have w3 : u * (e.1 : Rat) + v * (e.2 : Rat) ≤ u * y.1 + v * y.2 := se.dual u v _ hu hv k
  have w4 := O.sx.dual u v _ hu hv k
  have := far_in (a := (c : Rat)) (b := (d : Rat)) (c := (a : Rat)) (d := (b : Rat)) (x1 := y.2) (x2 := y.1) (y1 := x.2) (y2 := x.1) (e1 := (e.2 : Rat)) (e2 := (e.1 : Rat)) (u := v) (v := u) (f := ((q.1 - p.1 : Int) : Rat)) (r := ((p.2 - q.2 : Int) : Rat)) (R := ((reachI p q : Int) : Rat))
    hc hcd ha hab O.e2 O.e1 O.sy.nn.2 se.nn.1 hv hu huv.symm r0 f0 (by grind) (by grind) (by grind) (by grind) l2 l1
  rw [cast_le]
  push_cast at this ⊢
  grind
theorem high_near (h : Edge D E t m) (q1 : Pat a b) (q2 : Pat c d) (O : Offers D a b c d x y) {e : Pi} (he : e ∈ E) (bn : BndI (scl a d e) (E.map (scl b c))) : x.1 ≤ (e.1 : Rat) ∧ (e.2 : Rat) ≤ x.2 := by
  obtain ⟨ha, hab⟩ := pat4 q1
  obtain ⟨hc, hcd⟩ := pat4 q2
  have se := h.sup e he
  rcases sup_order O.sx se with o | ⟨l1, l2⟩
  · exact o
  · obtain ⟨px1, px2, _, _⟩ := O.pos h q1 q2
    rw [bnd_scl] at bn
    obtain ⟨p, q, n, pp, on⟩ := h.at O.sy
    obtain ⟨p', q', n', pp', on'⟩ := h.at se
    obtain ⟨f0, r0, un⟩ := h.part n
    obtain ⟨f0', r0', un'⟩ := h.part n'
    have b1 := cast_le.mp (bn p q n)
    have b2 := cast_le.mp (bn p' q' n')
    have w1 := un _ O.sx.dual
    have w2 := un' _ O.sx.dual
    unfold Under at w1 w2
    rw [← on] at w1 b1
    rw [← on'] at w2 b2
    have := not_far (a := (a : Rat)) (b := (b : Rat)) (c := (c : Rat)) (d := (d : Rat)) (e1 := (e.1 : Rat)) (e2 := (e.2 : Rat)) ha hab hc hcd O.e1 O.e2 px1 px2 f0' r0' (pos_cast pp') f0 r0 (pos_cast pp) (by push_cast at b1 ⊢; exact b1) (by push_cast at b2 ⊢; exact b2) w2 w1 l1 l2
    exact ⟨by rw [this.1]; exact Rat.le_refl, by rw [this.2]; exact Rat.le_refl⟩
theorem wide_near (h : Edge D E t m) (q1 : Pat a b) (q2 : Pat c d) (O : Offers D a b c d x y) {e : Pi} (he : e ∈ E) (bn : BndI (scl b c e) (E.map (scl a d))) : (e.1 : Rat) ≤ y.1 ∧ y.2 ≤ (e.2 : Rat) := by
  obtain ⟨ha, hab⟩ := pat4 q1
  obtain ⟨hc, hcd⟩ := pat4 q2
  have se := h.sup e he
  rcases sup_order O.sy se with ⟨l1, l2⟩ | o
  · obtain ⟨_, _, py1, py2⟩ := O.pos h q1 q2
    rw [bnd_scl] at bn
    obtain ⟨p, q, n, pp, on⟩ := h.at O.sx
    obtain ⟨p', q', n', pp', on'⟩ := h.at se
    obtain ⟨f0, r0, un⟩ := h.part n
    obtain ⟨f0', r0', un'⟩ := h.part n'
    have b1 := cast_le.mp (bn p q n)
    have b2 := cast_le.mp (bn p' q' n')
    have w1 := un _ O.sy.dual
    have w2 := un' _ O.sy.dual
    unfold Under at w1 w2
    rw [← on] at w1 b1
    rw [← on'] at w2 b2
    have z1 : (toR e).1 = (e.1 : Rat) := rfl
    have z2 : (toR e).2 = (e.2 : Rat) := rfl
    rw [z1, z2] at b2 w2
    have := not_far (a := (c : Rat)) (b := (d : Rat)) (c := (a : Rat)) (d := (b : Rat)) (x1 := y.2) (x2 := y.1) (y1 := x.2) (y2 := x.1) (e1 := (e.2 : Rat)) (e2 := (e.1 : Rat)) (u := ((q'.1 - p'.1 : Int) : Rat)) (v := ((p'.2 - q'.2 : Int) : Rat)) (f := ((q.1 - p.1 : Int) : Rat)) (r := ((p.2 - q.2 : Int) : Rat))
      hc hcd ha hab O.e2 O.e1 py2 py1 r0' f0' (pos_cast pp').symm r0 f0 (pos_cast pp).symm (by push_cast at b1 ⊢; grind) (by push_cast at b2 ⊢; grind) (by grind) (by grind) l2 l1
    exact ⟨by rw [this.2]; exact Rat.le_refl, by rw [this.1]; exact Rat.le_refl⟩
  · exact o
/-- the walks come to an end -/
theorem high_ends (h : Edge D E t m) (q1 : Pat a b) (q2 : Pat c d) (O : Offers D a b c d x y) : BndI (scl a d (m, 0)) (E.map (scl b c)) :=
  high_far h q1 q2 O (List.mem_of_getLast? h.last) (h.bound O.sx.dual).1 O.sx.nn.2
theorem wide_ends (h : Edge D E t m) (q1 : Pat a b) (q2 : Pat c d) (O : Offers D a b c d x y) : ¬ BndI (scl b c (m, 0)) (E.map (scl a d)) := fun z => by
  have k := (wide_near h q1 q2 O (List.mem_of_getLast? h.last) z).2
  have := (O.pos h q1 q2).2.2.2
  have e : (((m, 0) : Pi).2 : Rat) = 0 := rfl
  rw [e] at k
  grind
theorem Edge.zero (h : Edge D E t m) {p : Pi} (e : E[0]? = some p) : p = (0, t) := by
  obtain ⟨s, es⟩ := h.first
  rw [es] at e
  exact (Option.some.inj e).symm
theorem high_at (h : Edge D E t m) (q1 : Pat a b) (q2 : Pat c d) (O : Offers D a b c d x y) {i : Nat} {p q : Pi} (hp : E[i]? = some p) (hq : E[i + 1]? = some q) (np : i = 0 ∨ ¬ BndI (scl a d p) (E.map (scl b c))) (bq : BndI (scl a d q) (E.map (scl b c))) :
    (0 < p.2 - q.2 ∨ 0 < q.1 - p.1) ∧ ((p.2 - q.2 : Int) : Rat) * x.1 + ((q.1 - p.1 : Int) : Rat) * x.2 = ((reachI p q : Int) : Rat) := by
  have mp := List.mem_of_getElem? hp
  have mq := List.mem_of_getElem? hq
  obtain ⟨i1, i2, un⟩ := ec_next h.ec hp hq
  obtain ⟨b1, b2⟩ := high_near h q1 q2 O mq bq
  have oa : (p.1 : Rat) ≤ x.1 ∧ x.2 ≤ (p.2 : Rat) := by
    rcases np with e | np
    · subst e
      rw [h.zero hp]
      exact ⟨O.sx.nn.1, (h.bound O.sx.dual).2⟩
    · rcases sup_order O.sx (h.sup p mp) with ⟨l1, l2⟩ | o
      · exact absurd (high_far h q1 q2 O mp l1 l2) np
      · exact o
  refine ⟨?_, line_at O.sx (h.sup p mp) (h.sup q mq) un oa.1 oa.2 b1 b2⟩
  refine Classical.byContradiction fun no => ?_
  have e : p = q := Prod.ext (by omega) (by omega)
  subst e
  rcases np with e | np
  · subst e
    have px := (O.pos h q1 q2).1
    rw [h.zero hp] at b1
    have e : (((0, t) : Pi).1 : Rat) = 0 := rfl
    rw [e] at b1
    grind
  · exact np bq
theorem wide_at (h : Edge D E t m) (q1 : Pat a b) (q2 : Pat c d) (O : Offers D a b c d x y) {i : Nat} {p q : Pi} (hp : E[i]? = some p) (hq : E[i + 1]? = some q) (bp : i = 0 ∨ BndI (scl b c p) (E.map (scl a d))) (nq : ¬ BndI (scl b c q) (E.map (scl a d))) :
    (0 < p.2 - q.2 ∨ 0 < q.1 - p.1) ∧ ((p.2 - q.2 : Int) : Rat) * y.1 + ((q.1 - p.1 : Int) : Rat) * y.2 = ((reachI p q : Int) : Rat) := by
  have mp := List.mem_of_getElem? hp
  have mq := List.mem_of_getElem? hq
  obtain ⟨i1, i2, un⟩ := ec_next h.ec hp hq
  have oa : (p.1 : Rat) ≤ y.1 ∧ y.2 ≤ (p.2 : Rat) := by
    rcases bp with e | bp
    · subst e
      rw [h.zero hp]
      exact ⟨O.sy.nn.1, (h.bound O.sy.dual).2⟩
    · exact wide_near h q1 q2 O mp bp
  have ob : y.1 ≤ (q.1 : Rat) ∧ (q.2 : Rat) ≤ y.2 := by
    rcases sup_order O.sy (h.sup q mq) with o | ⟨l1, l2⟩
    · exact o
    · exact absurd (wide_far h q1 q2 O mq l1 l2) nq
  refine ⟨?_, line_at O.sy (h.sup p mp) (h.sup q mq) un oa.1 oa.2 ob.1 ob.2⟩
  refine Classical.byContradiction fun no => ?_
  have e : p = q := Prod.ext (by omega) (by omega)
  subst e
  rcases bp with e | bp
  · subst e
    have py := (O.pos h q1 q2).2.2.1
    rw [h.zero hp] at ob
    have o1 := ob.1
    have e : (((0, t) : Pi).1 : Rat) = 0 := rfl
    rw [e] at o1
    grind
  · exact nq bp
end
end My
set_option linter.all false
namespace My
open Ql88 (left rim parts along most most1 most2 meet nashOf partOf sameOf talkOf)
/-! ## talk: the crossing of the two lines -/
theorem det_pos {a b c d x1 x2 y1 y2 f r f' r' : Rat} (ha : 0 < a) (hab : a < b) (hc : 0 < c) (hcd : c < d) (h1 : b * y1 = a * x1) (h2 : d * x2 = c * y2) (px1 : 0 < x1) (py2 : 0 < y2) (hf : 0 ≤ f) (hr : 0 ≤ r) (hfr : 0 < f ∨ 0 < r) (hf' : 0 ≤ f') (hr' : 0 ≤ r') (hfr' : 0 < f' ∨ 0 < r')
    (uy : f * y1 + r * y2 ≤ f * x1 + r * x2) (ux : f' * x1 + r' * x2 ≤ f' * y1 + r' * y2) : 0 < b * d * f * r' - a * c * f' * r := by
  have hb : 0 < b := by grind
  have hd : 0 < d := by grind
  have hP : 0 < x1 - y1 := by
    refine Rat.not_le.mp fun z => ?_
    have p1 := nn_mul_le (Rat.le_of_lt hb) (show x1 ≤ y1 by grind)
    have p2 := Rat.mul_pos (show 0 < b - a by grind) px1
    grind
  have hQ : 0 < y2 - x2 := by
    refine Rat.not_le.mp fun z => ?_
    have p1 := nn_mul_le (Rat.le_of_lt hd) (show y2 ≤ x2 by grind)
    have p2 := Rat.mul_pos (show 0 < d - c by grind) py2
    grind
  have k1 : r * (y2 - x2) ≤ f * (x1 - y1) := by grind
  have k2 : f' * (x1 - y1) ≤ r' * (y2 - x2) := by grind
  have f0 : 0 < f := by
    rcases (show f = 0 ∨ 0 < f by grind) with z | z
    · subst z
      have := Rat.mul_pos (show 0 < r by grind) hQ
      grind
    · exact z
  have r0 : 0 < r' := by
    rcases (show r' = 0 ∨ 0 < r' by grind) with z | z
    · subst z
      have := Rat.mul_pos (show 0 < f' by grind) hP
      grind
    · exact z
  have k3 : f' * r ≤ f * r' := by
    refine le_of_pos (Rat.mul_pos hP hQ) ?_
    have s1 := nn_mul_le (Rat.mul_nonneg hf' (Rat.le_of_lt hP)) k1
    have s2 := Rat.mul_le_mul_of_nonneg_right k2 (Rat.mul_nonneg hf (Rat.le_of_lt hP))
    grind
  have k4 := nn_mul_le (Rat.le_of_lt (Rat.mul_pos ha hc)) k3
  have k7 : a * c < b * d := by
    have t1 := Rat.mul_lt_mul_of_pos_left hcd ha
    have t2 := Rat.mul_lt_mul_of_pos_right hab hd
    grind
  have k8 := Rat.mul_lt_mul_of_pos_right k7 (Rat.mul_pos f0 r0)
  grind
def crossI (p q p' q' : Pi) : Int × Int × Int :=
  (reachI p q * (q'.1 - p'.1) - reachI p' q' * (q.1 - p.1), (p.2 - q.2) * reachI p' q' - (p'.2 - q'.2) * reachI p q, (p.2 - q.2) * (q'.1 - p'.1) - (p'.2 - q'.2) * (q.1 - p.1))
def offersI (a b c d : Int) (z : Int × Int × Int) : List Int := (frac z.1 (z.2.2 * a) ++ frac z.2.1 (z.2.2 * d)) ++ (frac z.1 (z.2.2 * b) ++ frac z.2.1 (z.2.2 * c))
theorem eq_div {x L F : Rat} (hL : 0 < L) (h : x * L = F) : x = F / L := by
  rw [← h]
  exact (Rat.mul_div_cancel (by grind)).symm
theorem cross_due {D : Pt → Prop} {E : List Pi} {t m a b c d : Int} {x y : Pt} (h : Edge D E t m) (q1 : Pat a b) (q2 : Pat c d) (O : Offers D a b c d x y) {i j : Nat} {p q p' q' : Pi}
    (hp : (E.map (scl a d))[i]? = some p) (hq : (E.map (scl a d))[i + 1]? = some q) (np : i = 0 ∨ ¬ BndI p (E.map (scl b c))) (bq : BndI q (E.map (scl b c)))
    (hp' : (E.map (scl b c))[j]? = some p') (hq' : (E.map (scl b c))[j + 1]? = some q') (bp' : j = 0 ∨ BndI p' (E.map (scl a d))) (nq' : ¬ BndI q' (E.map (scl a d))) :
    0 ≤ (crossI p q p' q').1 ∧ 0 ≤ (crossI p q p' q').2.1 ∧ 0 < (crossI p q p' q').2.2 ∧ offersI a b c d (crossI p q p' q') = toInts (Ql88.pair x ++ Ql88.pair y) := by
  rw [List.getElem?_map] at hp hq hp' hq'
  obtain ⟨e, he, rfl⟩ := Option.map_eq_some_iff.mp hp
  obtain ⟨g, hg, rfl⟩ := Option.map_eq_some_iff.mp hq
  obtain ⟨e', he', rfl⟩ := Option.map_eq_some_iff.mp hp'
  obtain ⟨g', hg', rfl⟩ := Option.map_eq_some_iff.mp hq'
  obtain ⟨ha, hab⟩ := pat4 q1
  obtain ⟨hc, hcd⟩ := pat4 q2
  obtain ⟨px1, px2, py1, py2⟩ := O.pos h q1 q2
  obtain ⟨pp, on⟩ := high_at h q1 q2 O he hg np bq
  obtain ⟨pp', on'⟩ := wide_at h q1 q2 O he' hg' bp' nq'
  obtain ⟨f0, r0, un⟩ := h.part ⟨i, he, hg⟩
  obtain ⟨f0', r0', un'⟩ := h.part ⟨j, he', hg'⟩
  have w1 := un _ O.sy.dual
  have w2 := un' _ O.sx.dual
  unfold Under at w1 w2
  rw [← on] at w1
  rw [← on'] at w2
  have dp := det_pos ha hab hc hcd O.e1 O.e2 px1 py2 f0 r0 (pos_cast pp) f0' r0' (pos_cast pp') w1 w2
  have el : (((crossI (scl a d e) (scl a d g) (scl b c e') (scl b c g')).2.2 : Int) : Rat) = (b : Rat) * (d : Rat) * ((e.2 - g.2 : Int) : Rat) * ((g'.1 - e'.1 : Int) : Rat) - (a : Rat) * (c : Rat) * ((e'.2 - g'.2 : Int) : Rat) * ((g.1 - e.1 : Int) : Rat) := by
    unfold crossI scl
    push_cast
    grind
  have e1 : (((crossI (scl a d e) (scl a d g) (scl b c e') (scl b c g')).1 : Int) : Rat) = (a : Rat) * (d : Rat) * ((reachI e g : Int) : Rat) * (b : Rat) * ((g'.1 - e'.1 : Int) : Rat) - (b : Rat) * (c : Rat) * ((reachI e' g' : Int) : Rat) * (a : Rat) * ((g.1 - e.1 : Int) : Rat) := by
    unfold crossI
    rw [reach_scl, reach_scl]
    unfold scl
    push_cast
    grind
  have e2 : (((crossI (scl a d e) (scl a d g) (scl b c e') (scl b c g')).2.1 : Int) : Rat) = (d : Rat) * ((e.2 - g.2 : Int) : Rat) * (b : Rat) * (c : Rat) * ((reachI e' g' : Int) : Rat) - (c : Rat) * ((e'.2 - g'.2 : Int) : Rat) * (a : Rat) * (d : Rat) * ((reachI e g : Int) : Rat) := by
    unfold crossI
    rw [reach_scl, reach_scl]
    unfold scl
    push_cast
    grind
  rw [← on, ← on'] at e1 e2
  rw [← el] at dp
  generalize crossI (scl a d e) (scl a d g) (scl b c e') (scl b c g') = Z at *
  generalize ((e.2 - g.2 : Int) : Rat) = f at *
  generalize ((g.1 - e.1 : Int) : Rat) = r at *
  generalize ((e'.2 - g'.2 : Int) : Rat) = f' at *
  generalize ((g'.1 - e'.1 : Int) : Rat) = r' at *
  have h1 := O.e1
  have h2 := O.e2
  have hb : (0 : Rat) < (b : Rat) := by grind
  have hd : (0 : Rat) < (d : Rat) := by grind
  have k1 : x.1 * ((Z.2.2 : Rat) * (a : Rat)) = (Z.1 : Rat) := by
    rw [e1, el]
    have s1 : (a : Rat) * (d : Rat) * (f * x.1 + r * x.2) * (b : Rat) * r' = (a : Rat) * (b : Rat) * (d : Rat) * f * r' * x.1 + (a : Rat) * (b : Rat) * r * r' * ((d : Rat) * x.2) := by grind
    have s2 : (b : Rat) * (c : Rat) * (f' * y.1 + r' * y.2) * (a : Rat) * r = (a : Rat) * (c : Rat) * f' * r * ((b : Rat) * y.1) + (a : Rat) * (b : Rat) * r * r' * ((c : Rat) * y.2) := by grind
    rw [s1, s2, h1, h2]
    grind
  have k2 : y.2 * ((Z.2.2 : Rat) * (c : Rat)) = (Z.2.1 : Rat) := by
    rw [e2, el]
    have s1 : (d : Rat) * f * (b : Rat) * (c : Rat) * (f' * y.1 + r' * y.2) = (c : Rat) * (d : Rat) * f * f' * ((b : Rat) * y.1) + (b : Rat) * (c : Rat) * (d : Rat) * f * r' * y.2 := by grind
    have s2 : (c : Rat) * f' * (a : Rat) * (d : Rat) * (f * x.1 + r * x.2) = (c : Rat) * (d : Rat) * f * f' * ((a : Rat) * x.1) + (a : Rat) * (c : Rat) * f' * r * ((d : Rat) * x.2) := by grind
    rw [s1, s2, h1, h2]
    grind
  have k3 : x.2 * ((Z.2.2 : Rat) * (d : Rat)) = (Z.2.1 : Rat) := by
    rw [← k2]
    have : x.2 * ((Z.2.2 : Rat) * (d : Rat)) = (Z.2.2 : Rat) * ((d : Rat) * x.2) := by grind
    rw [this, h2]
    grind
  have k4 : y.1 * ((Z.2.2 : Rat) * (b : Rat)) = (Z.1 : Rat) := by
    rw [← k1]
    have : y.1 * ((Z.2.2 : Rat) * (b : Rat)) = (Z.2.2 : Rat) * ((b : Rat) * y.1) := by grind
    rw [this, h1]
    grind
  have La := Rat.mul_pos dp ha
  have Lb := Rat.mul_pos dp hb
  have Lc := Rat.mul_pos dp hc
  have Ld := Rat.mul_pos dp hd
  have z1 : 0 ≤ Z.1 := Rat.intCast_nonneg.mp (by rw [← k1]; exact Rat.mul_nonneg (Rat.le_of_lt px1) (Rat.le_of_lt La))
  have z2 : 0 ≤ Z.2.1 := Rat.intCast_nonneg.mp (by rw [← k2]; exact Rat.mul_nonneg (Rat.le_of_lt py2) (Rat.le_of_lt Lc))
  have z3 : 0 < Z.2.2 := Rat.intCast_pos.mp dp
  have pc : ∀ {w : Int}, (0 : Rat) < (w : Rat) → 0 < Z.2.2 * w := fun {w} hw => Int.mul_pos z3 (Rat.intCast_pos.mp hw)
  refine ⟨z1, z2, z3, ?_⟩
  unfold offersI
  rw [pair_of (x := x.1) (y := x.2) z1 (pc ha) z2 (pc hd) (by push_cast; exact eq_div La k1) (by push_cast; exact eq_div Ld k3), pair_of (x := y.1) (y := y.2) z1 (pc hb) z2 (pc hc) (by push_cast; exact eq_div Lb k4) (by push_cast; exact eq_div Lc k2)]
  unfold toInts
  rw [List.map_append]
/-! ## the edge over all that is looked at by the specification -/
theorem ec_dom {P : List Pt} (g : Good P) : ∀ {E : List Pi}, EC (fun d => d ∈ P) E → EC (Dom P) E
  | [], _ => trivial
  | [_], _ => trivial
  | a :: b :: r, ⟨h1, h2, h3, h4⟩ => ⟨h1, h2, dom_dual g (Rat.intCast_nonneg.mpr (by omega)) (Rat.intCast_nonneg.mpr (by omega)) h3, ec_dom g h4⟩
theorem edge_dom {P : List Pt} (g : Good P) {E : List Pi} {t m : Int} (h : Edge (fun d => d ∈ P) E t m) : Edge (Dom P) E t m := by
  refine ⟨ec_dom g h.ec, h.first, h.last, h.ht, h.hm, fun p hp => sup_dom g (h.sup p hp), fun d hd => ?_, fun d hd => ?_⟩
  · have := dom_dual g (m := 1) (n := 0) (B := (m : Rat)) (by decide) (by decide) (fun d hd => by have := h.top1 d hd; grind) d hd
    grind
  · have := dom_dual g (m := 0) (n := 1) (B := (t : Rat)) (by decide) (by decide) (fun d hd => by have := h.top2 d hd; grind) d hd
    grind
/-- all that the walks need -/
theorem talk_edge {P l : List Pi} (nn : ∀ v, v ∈ P → 0 ≤ v.1 ∧ 0 ≤ v.2) (g1 : ∃ v, v ∈ P ∧ 0 < v.1) (g2 : ∃ v, v ∈ P ∧ 0 < v.2) (O : Out P l) {a b c d : Int} (q1 : Pat a b) (q2 : Pat c d) :
    ∃ (t m : Int) (x y : Pt), Edge (Dom (P.map toR)) (edgeI l) t m ∧ Offers (Dom (P.map toR)) a b c d x y ∧ toInts (talkIs a b c d (P.map toR)) = toInts (Ql88.pair x ++ Ql88.pair y) := by
  obtain ⟨o, s, z, ea, ez⟩ := O.ends
  have g := good_of nn g1 g2
  obtain ⟨a0, a1, ea', hb⟩ := pat_rat q1
  obtain ⟨c0, c1, ec', hd⟩ := pat_rat q2
  have T := talk_spec g a0 a1 c0 c1
  refine ⟨o.2, z.1, _, _, edge_dom g (edge_of nn g1 g2 O ea ez), ⟨T.s1, T.s2, ?_, ?_⟩, rfl⟩
  · rw [T.e1, ← ea']
    grind
  · rw [T.e2, ← ec']
    grind
end My
set_option Elab.async false
set_option linter.all false
set_option maxRecDepth 100000
set_option maxHeartbeats 2000000
namespace Prog
open PySem PySem.Spec PyProof.Rows L2
def top (i : Nat) : Stmt := PySem.Challenge.pw_agreed_s04_talk.main.body.getD i (.Pass ⟨0, 0, 0, 0⟩)
abbrev s_talk : Stmt := top 4
abbrev s_is_left_by_waiting : Stmt := top 5
abbrev s_refusal_of : Stmt := top 6
abbrev s_is_count : Stmt := top 7
abbrev s_corners_of : Stmt := top 8
abbrev s_are_worth_a_deal : Stmt := top 9
abbrev s_outline_of : Stmt := top 10
abbrev s_is_last_needless : Stmt := top 11
abbrev s_is_within : Stmt := top 12
abbrev s_edge_of : Stmt := top 13
abbrev s_line_through : Stmt := top 14
abbrev s_two_offers : Stmt := top 15
abbrev s_drawn_larger : Stmt := top 16
abbrev s_meeting_of : Stmt := top 17
abbrev s_lines_of : Stmt := top 18
abbrev s_is_bounded : Stmt := top 19
abbrev s_crossing_of : Stmt := top 20
abbrev s_fraction : Stmt := top 21
abbrev s_common_divisor : Stmt := top 22
theorem sc_talk : FnScope ["k", "a", "b", "c", "d", "p", "refusal"] ["k", "a", "b", "c", "d", "p"] (defScope s_talk) := ⟨rfl, rfl, rfl, by decide +kernel, rfl, by decide +kernel, by decide +kernel⟩
theorem sc_is_left_by_waiting : FnScope ["upper", "lower"] ["upper", "lower"] (defScope s_is_left_by_waiting) := ⟨rfl, rfl, rfl, by decide +kernel, rfl, by decide +kernel, by decide +kernel⟩
theorem sc_refusal_of : FnScope ["k", "p"] ["k", "p"] (defScope s_refusal_of) := ⟨rfl, rfl, rfl, by decide +kernel, rfl, by decide +kernel, by decide +kernel⟩
theorem sc_is_count : FnScope ["k"] ["k"] (defScope s_is_count) := ⟨rfl, rfl, rfl, by decide +kernel, rfl, by decide +kernel, by decide +kernel⟩
theorem sc_corners_of : FnScope ["k", "p", "place"] ["k", "p"] (defScope s_corners_of) := ⟨rfl, rfl, rfl, by decide +kernel, rfl, by decide +kernel, by decide +kernel⟩
theorem sc_are_worth_a_deal : FnScope ["corners", "most_first", "most_second", "corner"] ["corners"] (defScope s_are_worth_a_deal) := ⟨rfl, rfl, rfl, by decide +kernel, rfl, by decide +kernel, by decide +kernel⟩
theorem sc_outline_of : FnScope ["corners", "outline", "corner"] ["corners"] (defScope s_outline_of) := ⟨rfl, rfl, rfl, by decide +kernel, rfl, by decide +kernel, by decide +kernel⟩
theorem sc_is_last_needless : FnScope ["outline", "corner", "last"] ["outline", "corner"] (defScope s_is_last_needless) := ⟨rfl, rfl, rfl, by decide +kernel, rfl, by decide +kernel, by decide +kernel⟩
theorem sc_is_within : FnScope ["left", "middle", "right", "run", "rise"] ["left", "middle", "right"] (defScope s_is_within) := ⟨rfl, rfl, rfl, by decide +kernel, rfl, by decide +kernel, by decide +kernel⟩
theorem sc_edge_of : FnScope ["outline"] ["outline"] (defScope s_edge_of) := ⟨rfl, rfl, rfl, by decide +kernel, rfl, by decide +kernel, by decide +kernel⟩
theorem sc_line_through : FnScope ["left", "right", "fall", "run"] ["left", "right"] (defScope s_line_through) := ⟨rfl, rfl, rfl, by decide +kernel, rfl, by decide +kernel, by decide +kernel⟩
theorem sc_two_offers : FnScope ["edge", "a", "b", "c", "d", "meeting", "first", "second", "lower", "one", "other"] ["edge", "a", "b", "c", "d"] (defScope s_two_offers) := ⟨rfl, rfl, rfl, by decide +kernel, rfl, by decide +kernel, by decide +kernel⟩
theorem sc_drawn_larger : FnScope ["edge", "first_times", "second_times", "bend"] ["edge", "first_times", "second_times"] (defScope s_drawn_larger) := ⟨rfl, rfl, rfl, by decide +kernel, rfl, by decide +kernel, by decide +kernel⟩
theorem sc_meeting_of : FnScope ["high", "wide", "high_lines", "wide_lines", "inward", "outward"] ["high", "wide"] (defScope s_meeting_of) := ⟨rfl, rfl, rfl, by decide +kernel, rfl, by decide +kernel, by decide +kernel⟩
theorem sc_lines_of : FnScope ["edge", "place"] ["edge"] (defScope s_lines_of) := ⟨rfl, rfl, rfl, by decide +kernel, rfl, by decide +kernel, by decide +kernel⟩
theorem sc_is_bounded : FnScope ["bend", "lines", "line"] ["bend", "lines"] (defScope s_is_bounded) := ⟨rfl, rfl, rfl, by decide +kernel, rfl, by decide +kernel, by decide +kernel⟩
theorem sc_crossing_of : FnScope ["steep", "shallow", "first", "second"] ["steep", "shallow"] (defScope s_crossing_of) := ⟨rfl, rfl, rfl, by decide +kernel, rfl, by decide +kernel, by decide +kernel⟩
theorem sc_fraction : FnScope ["upper", "lower", "divisor"] ["upper", "lower"] (defScope s_fraction) := ⟨rfl, rfl, rfl, by decide +kernel, rfl, by decide +kernel, by decide +kernel⟩
theorem sc_common_divisor : FnScope ["one", "other", "rest"] ["one", "other"] (defScope s_common_divisor) := ⟨rfl, rfl, rfl, by decide +kernel, rfl, by decide +kernel, by decide +kernel⟩
end Prog
set_option Elab.async false
set_option linter.all false
set_option maxRecDepth 100000
set_option maxHeartbeats 2000000
namespace Prog
open PySem PySem.Spec PyProof.Rows L2
open PySem.W (Codec)
/-! ### the data: corners as tuples -/
def Bnd (v : My.Pi) : Prop := 0 ≤ v.1 ∧ v.1 ≤ 1000 ∧ 0 ≤ v.2 ∧ v.2 ≤ 1000
def PtAt (H : Hp) (t : Addr) (v : My.Pi) : Prop := H t = some (.tup [.int v.1, .int v.2])
inductive PP (H : Hp) : List Addr → List My.Pi → Prop
  | nil : PP H [] []
  | cons {t : Addr} {v : My.Pi} {ts : List Addr} {vs : List My.Pi} : PtAt H t v → PP H ts vs → PP H (t :: ts) (v :: vs)
theorem PP.mono {H H' : Hp} (e : ∀ t v, PtAt H t v → PtAt H' t v) : ∀ {ts : List Addr} {vs : List My.Pi}, PP H ts vs → PP H' ts vs
  | _, _, .nil => .nil
  | _, _, .cons h t => .cons (e _ _ h) (PP.mono e t)
theorem PP.same {H H' : Hp} (e : Same H H') {ts : List Addr} {vs : List My.Pi} (h : PP H ts vs) : PP H' ts vs := h.mono fun t _ q => e t _ q
theorem PtAt.upd {H : Hp} {o : Addr} {xs ys : List V} (ho : H o = some (.lst xs)) {t : Addr} {v : My.Pi} (h : PtAt H t v) : PtAt (L2.upd H o (.lst ys)) t v := by
  unfold PtAt
  rw [upd_ne (ne_of h ho (by intro z; cases z))]
  exact h
theorem PP.upd {H : Hp} {o : Addr} {xs ys : List V} (ho : H o = some (.lst xs)) {ts : List Addr} {vs : List My.Pi} (h : PP H ts vs) : PP (L2.upd H o (.lst ys)) ts vs := h.mono fun _ _ q => q.upd ho
theorem PP.length {H : Hp} : ∀ {ts : List Addr} {vs : List My.Pi}, PP H ts vs → ts.length = vs.length
  | _, _, .nil => rfl
  | _, _, .cons _ t => by rw [List.length_cons, List.length_cons, PP.length t]
theorem PP.get {H : Hp} : ∀ {ts : List Addr} {vs : List My.Pi} {i : Nat} {v : My.Pi}, PP H ts vs → vs[i]? = some v → ∃ t, ts[i]? = some t ∧ PtAt H t v
  | _, _, _, _, .nil, e => by simp at e
  | _, _, 0, _, .cons h _, e => by
    simp at e
    subst e
    exact ⟨_, rfl, h⟩
  | _, _, i + 1, _, .cons _ t, e => by
    obtain ⟨u, h1, h2⟩ := PP.get (i := i) t (by simpa using e)
    exact ⟨u, by simpa using h1, h2⟩
theorem PP.get' {H : Hp} : ∀ {ts : List Addr} {vs : List My.Pi} {i : Nat} {t : Addr}, PP H ts vs → ts[i]? = some t → ∃ v, vs[i]? = some v ∧ PtAt H t v
  | _, _, _, _, .nil, e => by simp at e
  | _, _, 0, _, .cons h _, e => by
    simp at e
    subst e
    exact ⟨_, rfl, h⟩
  | _, _, i + 1, _, .cons _ t, e => by
    obtain ⟨u, h1, h2⟩ := PP.get' (i := i) t (by simpa using e)
    exact ⟨u, by simpa using h1, h2⟩
theorem PP.append {H : Hp} : ∀ {ts us : List Addr} {vs ws : List My.Pi}, PP H ts vs → PP H us ws → PP H (ts ++ us) (vs ++ ws)
  | _, _, _, _, .nil, s => s
  | _, _, _, _, .cons r t, s => .cons r (PP.append t s)
theorem PP.one {H : Hp} {t : Addr} {v : My.Pi} (h : PtAt H t v) : PP H [t] [v] := .cons h .nil
theorem PP.snoc {H : Hp} : ∀ {vs : List My.Pi} {us : List Addr} {b : My.Pi}, PP H us (vs ++ [b]) → ∃ ts t, us = ts ++ [t] ∧ PP H ts vs ∧ PtAt H t b
  | [], _, b, .cons h .nil => ⟨[], _, rfl, .nil, h⟩
  | v :: vs, _, b, .cons h t => by
    obtain ⟨ts, x, e, h1, h2⟩ := PP.snoc (vs := vs) t
    subst e
    exact ⟨_ :: ts, x, rfl, .cons h h1, h2⟩
theorem PP.zero {H : Hp} {us : List Addr} (h : PP H us []) : us = [] := by
  cases h
  rfl
theorem Same.upd {H : Hp} {p : Addr} {o : HO} (h : H p = Option.none) : Same H (L2.upd H p o) := fun b u e => by
  rw [upd_ne (ne_of_none e h)]
  exact e
theorem at0 (x y : V) : atI [x, y] 0 = some x := rfl
theorem at1 (x y : V) : atI [x, y] 1 = some y := rfl
theorem at_last (us : List Addr) (t : Addr) : atI ((us ++ [t]).map V.ref) (-1) = some (V.ref t) := by
  rw [List.map_append]
  exact atI_last _ _
theorem at_last2 (us : List Addr) (s t : Addr) : atI ((us ++ [s] ++ [t]).map V.ref) (-2) = some (V.ref s) := by
  have hl : ((us ++ [s] ++ [t]).map V.ref).length = us.length + 2 := by simp
  have e : ixN ((us ++ [s] ++ [t]).map V.ref).length (-2) = some us.length := by
    unfold ixN
    rw [hl, if_neg (by decide), if_pos (by omega)]
    congr 1
    omega
  unfold atI
  rw [e]
  show ((us ++ [s] ++ [t]).map V.ref)[us.length]? = some (V.ref s)
  simp
theorem map_at {us : List Addr} {i : Nat} {t : Addr} (h : us[i]? = some t) : (us.map V.ref)[i]? = some (V.ref t) := by
  rw [List.getElem?_map, h]
  rfl
theorem of_map_at {us : List Addr} {i : Nat} {x : V} (h : (us.map V.ref)[i]? = some x) : ∃ t, us[i]? = some t ∧ x = V.ref t := by
  rw [List.getElem?_map] at h
  cases e : us[i]? with
  | none =>
    rw [e] at h
    cases h
  | some t =>
    rw [e] at h
    exact ⟨t, rfl, (Option.some.inj h).symm⟩
theorem small256 {n : Nat} (h : n ≤ 512) : n ≤ sizeLine := by rw [sizeLine_eq]; omega
theorem less256 {n : Nat} (h : n ≤ 512) : n < sizeLine := by rw [sizeLine_eq]; omega
theorem iteY {c A B : Prop} [Decidable c] (hc : c) (h : A) : if c then A else B := by
  rw [if_pos hc]
  exact h
theorem iteN {c A B : Prop} [Decidable c] (hc : ¬ c) (h : B) : if c then A else B := by
  rw [if_neg hc]
  exact h
/-- // by a positive divisor of some size -/
def CDivW (i j : Int) : Prop := 0 < j ∧ j < 2 ^ 256
theorem op_fdivW {X : Cx} : OpR X (binaryOp .FloorDiv) (rI CDivW fun i j => .int (i / j)) := opI fun i j _ _ _ _ _ hc q => by
  have h1 : (0 : Int) < j := hc.1
  have h2 : j < 2 ^ 256 := hc.2
  have h3 : j.natAbs < 2 ^ 256 := by omega
  have h4 : j.natAbs.log2 < 256 := (Nat.log2_lt (by omega)).mpr h3
  exact floordiv_int (by omega) (by rw [Int.fdiv_eq_ediv_of_nonneg i (by omega)]; exact q) (.inl (PyProof.noPylong_of_log2 (by omega)))
/-! ### the promise of each def -/
def spDiv : Sp := fun vs H Q _ => ∃ u l : Int, vs = [.int u, .int l] ∧ 0 ≤ u ∧ 0 ≤ l ∧ Q (.int ((Int.gcd u l : Nat) : Int)) H
def spFrac : Sp := fun vs H Q _ => ∃ u l : Int, vs = [.int u, .int l] ∧ 0 ≤ u ∧ 0 < l ∧ l < 2 ^ 256 ∧ ∀ (H' : Hp) (p : Addr), Same H H' → H' p = some (.lst ((My.frac u l).map V.int)) → Q (.ref p) H'
def spWithin : Sp := fun vs H Q _ => ∃ (ta tb tc : Addr) (a b c : My.Pi), vs = [.ref ta, .ref tb, .ref tc] ∧ PtAt H ta a ∧ PtAt H tb b ∧ PtAt H tc c ∧ Bnd a ∧ Bnd b ∧ Bnd c ∧ Q (.bl (My.within a b c)) H
def spNeedless : Sp := fun vs H Q _ => ∃ (o c : Addr) (us : List Addr) (st : List My.Pi) (v : My.Pi), vs = [.ref o, .ref c] ∧ H o = some (.lst (us.map V.ref)) ∧ PP H us st.reverse ∧ PtAt H c v ∧ Bnd v ∧ (∀ z, z ∈ st → Bnd z) ∧ Q (.bl (My.needless st v)) H
def spCount : Sp := fun vs H Q _ => ∃ k : Int, vs = [.int k] ∧ Q (.bl (decide (1 ≤ k ∧ k ≤ 256))) H
section
variable {P : Program} {w : World} {K : PySem.W.Frag} {mg : Str → Option Value} {base : Heap}
/-! ### common_divisor -/
theorem gcd_turn {a b : Int} (ha : 0 ≤ a) (hb : 0 < b) : Int.gcd b (a % b) = Int.gcd a b := by
  rw [Int.gcd_comm a b]
  have e : a = a % b + b * (a / b) := (Int.emod_add_mul_ediv a b).symm
  conv => rhs; rw [e]
  rw [Int.gcd_add_mul_left_right]
theorem ok_common_divisor {f : Addr} {fd : FuncData} (F : Fun K "common_divisor" "common_divisor" s_common_divisor f fd) : FnOk P w K mg base CX0 1 f fd ["one", "other"] spDiv := by
  refine F.ok sc_common_divisor (fun vs H Q E h => ?_) (fun cdv A outer s H vs Q E hr h => ?_)
  · obtain ⟨u, l, rfl, _⟩ := h
    rfl
  · obtain ⟨u, l, rfl, hu, hl, k⟩ := h
    refine ⟨_, pss_cons (ps_while PassesOwn.never (pt_cmp (pc_neI (pv 1) pe_int)) (pss_cons (ps_set (i := 2) sc_common_divisor.nd rfl (Or.inl rfl) (pe_op op_mod (pv 0) (pv 1)))
      (pss_cons (ps_set (i := 0) sc_common_divisor.nd rfl (Or.inl rfl) (pv 1)) (pss_one (ps_set (i := 1) sc_common_divisor.nd rfl (Or.inl rfl) (pv 2)))))) (pss_one (ps_ret (pv 0))), ?_⟩
    refine ⟨fun m σ H' => ∃ (a b : Int) (r : Option V), σ = [some (.int a), some (.int b), r] ∧ m = b.toNat ∧ 0 ≤ a ∧ 0 ≤ b ∧ Int.gcd a b = Int.gcd u l ∧ Q (.int ((Int.gcd u l : Nat) : Int)) H',
      ⟨_, u, l, none, rfl, rfl, hu, hl, rfl, k⟩, ?_⟩
    rintro m σ H' ⟨a, b, r, rfl, rfl, ha, hb, hg, k⟩
    refine ⟨_, rfl, _, _, rfl, rfl, _, rfl, ?_⟩
    by_cases e : b = 0
    · subst e
      rw [if_neg (by simp)]
      refine ⟨_, rfl, ?_⟩
      rw [← hg, Int.gcd_zero_right, Int.natAbs_of_nonneg ha] at k
      exact k
    · refine iteY (by simp [e]) ?_
      refine ⟨fun σ' H2 => ∃ m', m' < b.toNat ∧ ∃ (a b : Int) (r : Option V), σ' = [some (.int a), some (.int b), r] ∧ m' = b.toNat ∧ 0 ≤ a ∧ 0 ≤ b ∧ Int.gcd a b = Int.gcd u l ∧ Q (.int ((Int.gcd u l : Nat) : Int)) H2, fun _ _ h => h, ?_⟩
      refine ⟨_, rfl, _, rfl, _, _, rfl, rfl, (show 0 < b by omega), _, rfl, _, rfl, ?_⟩
      have h1 := Int.emod_nonneg a e
      have h2 := Int.emod_lt_of_pos a (show 0 < b by omega)
      exact ⟨(a % b).toNat, by omega, b, a % b, some (.int (a % b)), rfl, rfl, hb, h1, (gcd_turn ha (by omega)).trans hg, k⟩
/-! ### fraction -/
theorem gcd_bounds {u l : Int} (hl : 0 < l) : (0 : Int) < ((Int.gcd u l : Nat) : Int) ∧ ((Int.gcd u l : Nat) : Int) ≤ l := by
  have h1 : 0 < Int.gcd u l := Int.gcd_pos_of_ne_zero_right u (by omega)
  have h2 : ((Int.gcd u l : Nat) : Int) ∣ l := Int.gcd_dvd_right ..
  exact ⟨by omega, Int.le_of_dvd hl h2⟩
theorem ok_fraction {f fD : Addr} {fd fdD : FuncData} (F : Fun K "fraction" "fraction" s_fraction f fd) (G : FnOk P w K mg base CX0 1 fD fdD ["one", "other"] spDiv) (mD : mg "common_divisor" = some (.ref fD)) (kD : PySem.W.keepIn K (.ref fD) = true) (bD : Binds K fdD ["one", "other"] []) :
    FnOk P w K mg base CX0 2 f fd ["upper", "lower"] spFrac := by
  refine F.ok sc_fraction (fun vs H Q E h => ?_) (fun cdv A outer s H vs Q E hr h => ?_)
  · obtain ⟨u, l, rfl, _⟩ := h
    rfl
  · obtain ⟨u, l, rfl, hu, hl, hl2, k⟩ := h
    refine ⟨_, pss_cons (ps_set (i := 2) sc_fraction.nd rfl (Or.inl rfl) (pe_call G hr rfl mD kD bD .nil pass0 (pa_cons (pv 0) (pa_cons (pv 1) pa_nil))))
      (pss_one (ps_ret (pe_lst (pa_cons (pe_op op_fdivW (pv 0) (pv 2)) (pa_cons (pe_op op_fdivW (pv 1) (pv 2)) pa_nil))))), ?_⟩
    obtain ⟨g0, g1⟩ := gcd_bounds (u := u) hl
    refine ⟨_, rfl, _, rfl, u, l, rfl, hu, by omega, ?_⟩
    refine ⟨_, rfl, _, rfl, _, _, rfl, rfl, ⟨g0, by omega⟩, _, rfl, _, rfl, _, _, rfl, rfl, ⟨g0, by omega⟩, (by show 2 ≤ sizeLine; decide), fun p hp => ?_⟩
    exact k _ p (Same.upd hp) upd_same
/-! ### is_within -/
theorem ok_is_within {f : Addr} {fd : FuncData} (F : Fun K "is_within" "is_within" s_is_within f fd) : FnOk P w K mg base CX0 1 f fd ["left", "middle", "right"] spWithin := by
  refine F.ok sc_is_within (fun vs H Q E h => ?_) (fun cdv A outer s H vs Q E hr h => ?_)
  · obtain ⟨ta, tb, tc, a, b, c, rfl, _⟩ := h
    rfl
  · obtain ⟨ta, tb, tc, a, b, c, rfl, ha, hb, hc, na, nb, nc, k⟩ := h
    refine ⟨_, pss_cons (ps_set (i := 3) sc_is_within.nd rfl (Or.inl rfl) (pe_op op_sub (pe_ix ix_tup (pv 2) pe_int (fun _ _ => rfl)) (pe_ix ix_tup (pv 0) pe_int (fun _ _ => rfl))))
      (pss_cons (ps_set (i := 4) sc_is_within.nd rfl (Or.inl rfl) (pe_op op_sub (pe_ix ix_tup (pv 2) pe_int (fun _ _ => rfl)) (pe_ix ix_tup (pv 0) pe_int (fun _ _ => rfl))))
      (pss_one (ps_ret (pe_cmp (pc_le (pe_op op_mul (pe_op op_sub (pe_ix ix_tup (pv 1) pe_int (fun _ _ => rfl)) (pe_ix ix_tup (pv 0) pe_int (fun _ _ => rfl))) (pv 3))
        (pe_op op_mul (pv 4) (pe_op op_sub (pe_ix ix_tup (pv 1) pe_int (fun _ _ => rfl)) (pe_ix ix_tup (pv 0) pe_int (fun _ _ => rfl))))))))), ?_⟩
    obtain ⟨a1, a2, a3, a4⟩ := na
    obtain ⟨b1, b2, b3, b4⟩ := nb
    obtain ⟨c1, c2, c3, c4⟩ := nc
    refine ⟨_, rfl, _, _, _, _, rfl, rfl, SqT.of hc, at0 _ _, _, rfl, _, _, _, _, rfl, rfl, SqT.of ha, at0 _ _, _, _, rfl, rfl, ?_⟩
    refine ⟨_, rfl, _, _, _, _, rfl, rfl, SqT.of hc, at1 _ _, _, rfl, _, _, _, _, rfl, rfl, SqT.of ha, at1 _ _, _, _, rfl, rfl, ?_⟩
    refine ⟨_, rfl, _, _, _, _, rfl, rfl, SqT.of hb, at1 _ _, _, rfl, _, _, _, _, rfl, rfl, SqT.of ha, at1 _ _, _, _, rfl, rfl, _, rfl, _, _, rfl, rfl, .inl ⟨by omega, by omega⟩, ?_⟩
    refine ⟨_, rfl, _, rfl, _, _, _, _, rfl, rfl, SqT.of hb, at0 _ _, _, rfl, _, _, _, _, rfl, rfl, SqT.of ha, at0 _ _, _, _, rfl, rfl, _, _, rfl, rfl, .inl ⟨by omega, by omega⟩, _, _, rfl, rfl, ?_⟩
    exact k
/-! ### is_last_needless -/
theorem ok_is_last_needless {f fW : Addr} {fd fdW : FuncData} (F : Fun K "is_last_needless" "is_last_needless" s_is_last_needless f fd) (mlen : mg "len" = none) (G : FnOk P w K mg base CX0 1 fW fdW ["left", "middle", "right"] spWithin) (mW : mg "is_within" = some (.ref fW)) (kW : PySem.W.keepIn K (.ref fW) = true)
    (bW : Binds K fdW ["left", "middle", "right"] []) : FnOk P w K mg base CX0 2 f fd ["outline", "corner"] spNeedless := by
  refine F.ok sc_is_last_needless (fun vs H Q E h => ?_) (fun cdv A outer s H vs Q E hr h => ?_)
  · obtain ⟨o, c, us, st, v, rfl, _⟩ := h
    rfl
  · obtain ⟨o, c, us, st, v, rfl, ho, hp, hc, nv, ns, k⟩ := h
    refine ⟨_, pss_cons (ps_if (pt_cmp (pc_eqI (pe_callB call_len_seq (by rfl) mlen PySem.boot_len (pa_cons (pv 0) pa_nil)) pe_int)) (pss_one (ps_ret pe_bl)) pss_nil)
      (pss_cons (ps_set (i := 2) sc_is_last_needless.nd rfl (Or.inl rfl) (pe_ix ix_list (pv 0) (pe_un un_neg pe_int) (fun _ _ => rfl)))
      (pss_cons (ps_if (pt_cmp (pc_le (pe_ix ix_tup (pv 2) pe_int (fun _ _ => rfl)) (pe_ix ix_tup (pv 1) pe_int (fun _ _ => rfl)))) (pss_one (ps_ret pe_bl)) pss_nil)
      (pss_cons (ps_if (pt_cmp (pc_eqI (pe_callB call_len_seq (by rfl) mlen PySem.boot_len (pa_cons (pv 0) pa_nil)) pe_int)) (pss_one (ps_ret pe_bl)) pss_nil)
      (pss_one (ps_ret (pe_call G hr rfl mW kW bW .nil pass0 (pa_cons (pe_ix ix_list (pv 0) (pe_un un_neg pe_int) (fun _ _ => rfl)) (pa_cons (pv 2) (pa_cons (pv 1) pa_nil))))))))), ?_⟩
    refine ⟨_, rfl, _, _, rfl, .inl (SqL.of ho), _, _, rfl, rfl, _, rfl, ?_⟩
    match st, hp, ns, k with
    | [], hp, ns, k =>
      have e := hp.zero
      subst e
      refine iteY (by simp) ?_
      exact k
    | b :: r, hp, ns, k =>
      rw [List.reverse_cons] at hp
      obtain ⟨ts, t, rfl, hp', ht⟩ := hp.snoc
      refine iteN (by simp; omega) ?_
      refine ⟨_, rfl, _, rfl, _, _, _, _, rfl, rfl, SqL.of ho, at_last _ _, ?_⟩
      refine ⟨_, rfl, _, _, _, _, rfl, rfl, SqT.of ht, at1 _ _, _, rfl, _, _, _, _, rfl, rfl, SqT.of hc, at1 _ _, _, _, rfl, rfl, _, rfl, ?_⟩
      refine ite2 (fun e => ?_) (fun e => ?_)
      · have e' : b.2 ≤ v.2 := of_decide_eq_true e
        have q : My.needless (b :: r) v = true := by
          cases r with
          | nil => exact decide_eq_true e'
          | cons a r =>
            show (decide (b.2 ≤ v.2) || My.within a b v) = true
            rw [decide_eq_true e']
            rfl
        rw [q] at k
        exact k
      · have e' : ¬ b.2 ≤ v.2 := fun z => e (decide_eq_true z)
        refine ⟨_, rfl, _, _, rfl, .inl (SqL.of ho), _, _, rfl, rfl, _, rfl, ?_⟩
        match r, hp', ns, k with
        | [], hp', ns, k =>
          have e2 := hp'.zero
          subst e2
          refine iteY (by simp) ?_
          have q : My.needless [b] v = false := decide_eq_false e'
          rw [q] at k
          exact k
        | a :: r, hp', ns, k =>
          rw [List.reverse_cons] at hp'
          obtain ⟨ts', t', rfl, hp'', ht'⟩ := hp'.snoc
          refine iteN (by simp; omega) ?_
          refine ⟨_, rfl, _, rfl, _, _, _, _, rfl, rfl, SqL.of ho, at_last2 _ _ _, _, rfl, _, rfl, ?_⟩
          refine ⟨t', t, c, a, b, v, rfl, ht', ht, hc, ns a (by simp), ns b (by simp), nv, ?_⟩
          have q : My.needless (b :: a :: r) v = My.within a b v := by
            show (decide (b.2 ≤ v.2) || My.within a b v) = _
            rw [decide_eq_false e']
            rfl
          rw [q] at k
          exact k
/-! ### is_count -/
theorem ok_is_count {f : Addr} {fd : FuncData} {tk : Tok} (F : Fun K "is_count" "is_count" s_is_count f fd) (mC : mg "MOST_CORNERS" = some (.int 256 tk)) : FnOk P w K mg base CX0 1 f fd ["k"] spCount := by
  refine F.ok sc_is_count (fun vs H Q E h => ?_) (fun cdv A outer s H vs Q E hr h => ?_)
  · obtain ⟨k, rfl, _⟩ := h
    rfl
  · obtain ⟨k, rfl, q⟩ := h
    refine ⟨_, pss_one (ps_ret (pe_and (pe_cmp (pc_le pe_int (pv 0))) (pe_one (pe_cmp (pc_le (pv 0) (pe_glob (v := .int 256) rfl mC ⟨_, rfl⟩)))))), ?_⟩
    refine ⟨_, rfl, _, _, rfl, rfl, _, rfl, ?_⟩
    by_cases h1 : 1 ≤ k
    · rw [if_pos (by simpa using h1)]
      refine ⟨_, rfl, _, _, rfl, rfl, ?_⟩
      by_cases h2 : k ≤ 256
      · rw [decide_eq_true (show 1 ≤ k ∧ k ≤ 256 from ⟨h1, h2⟩)] at q
        show Q (V.bl (decide (k ≤ 256))) H
        rw [decide_eq_true h2]
        exact q
      · rw [decide_eq_false (fun z : 1 ≤ k ∧ k ≤ 256 => h2 z.2)] at q
        show Q (V.bl (decide (k ≤ 256))) H
        rw [decide_eq_false h2]
        exact q
    · rw [if_neg (by simpa using h1)]
      rw [decide_eq_false (fun z : 1 ≤ k ∧ k ≤ 256 => h1 z.1)] at q
      exact q
end
end Prog
set_option Elab.async false
set_option linter.all false
set_option maxRecDepth 100000
set_option maxHeartbeats 2000000
namespace Prog
open PySem PySem.Spec PyProof.Rows L2
open PySem.W (Codec)
/-! ### sorted, over a list of pairs -/
def sh0 : Nat → Bool := fun _ => false
def valAt (H : Hp) (t : Addr) : My.Pi := match H t with
  | some (.tup [.int x, .int y]) => (x, y)
  | _ => (0, 0)
theorem valAt_of {H : Hp} {t : Addr} {v : My.Pi} (h : PtAt H t v) : valAt H t = v := by
  unfold valAt
  rw [show H t = some (.tup [.int v.1, .int v.2]) from h]
theorem PP.vals {H : Hp} : ∀ {ts : List Addr} {vs : List My.Pi}, PP H ts vs → vs = ts.map (valAt H) ∧ ∀ t, t ∈ ts → PtAt H t (valAt H t)
  | _, _, .nil => ⟨rfl, fun _ h => nomatch h⟩
  | _, _, .cons (t := t) (v := v) (ts := ts) h r => by
    obtain ⟨e, k⟩ := PP.vals r
    refine ⟨by rw [List.map_cons, valAt_of h, ← e], fun u hu => ?_⟩
    rcases List.mem_cons.mp hu with rfl | hu
    · rw [valAt_of h]; exact h
    · exact k u hu
theorem PP.of {H : Hp} : ∀ {ts : List Addr}, (∀ t, t ∈ ts → PtAt H t (valAt H t)) → PP H ts (ts.map (valAt H))
  | [], _ => .nil
  | t :: ts, h => .cons (h t (List.mem_cons_self ..)) (PP.of fun u hu => h u (List.mem_cons_of_mem _ hu))
def addrOf : Value → Addr
  | .ref a => a
  | _ => 0
theorem vals_refs : ∀ (us : List Addr), Vals (us.map V.ref) (us.map Value.ref)
  | [] => .nil
  | u :: us => .cons rfl (vals_refs us)
theorem lex_items {x y z u : Int} (h : (listOrd itemOrd).kle [Sum.inl x, Sum.inl y] [Sum.inl z, Sum.inl u]) : My.LexI (x, y) (z, u) := by
  have h' : lexLt itemOrd [Sum.inl z, Sum.inl u] [Sum.inl x, Sum.inl y] = false := h
  rw [lex_false] at h'
  obtain ⟨h1, h2⟩ := h'
  have h1' : decide (z < x) = false := h1
  have h1'' : ¬ z < x := of_decide_eq_false h1'
  rcases h2 with h2 | h2
  · have h2' : decide (x < z) = true := h2
    exact .inl (of_decide_eq_true h2')
  · rw [lex_false] at h2
    have h3 : decide (u < y) = false := h2.1
    have h3' : ¬ u < y := of_decide_eq_false h3
    by_cases e : x < z
    · exact .inl e
    · exact .inr ⟨show x = z by omega, show y ≤ u by omega⟩
section
variable {X : Cx}
theorem tup_heap {pins : List (Addr × Obj)} {σ : L2.St} {H : Hp} {s : Shared} (I : Inv X pins σ H s) {t : Addr} {v : My.Pi} (h : PtAt H t v) : ∃ o n t1 t2, s.heap.get? t = some o ∧ o.cls = .type "tuple" ∧ o.data = .seq #[.int v.1 t1, .int v.2 t2] n := by
  obtain ⟨_, its, rv, o, ho, hc, n, hd⟩ := I.hok t _ h
  obtain ⟨t1, t2, rfl⟩ := Vals.int2 rv
  exact ⟨o, n, t1, t2, ho, hc, hd⟩
theorem tup_key {pins : List (Addr × Obj)} {σ : L2.St} {H : Hp} {s : Shared} (I : Inv X pins σ H s) {t : Addr} {v : My.Pi} (h : PtAt H t v) : G.tupKeyC s.heap sh0 (.ref t) = some [Sum.inl v.1, Sum.inl v.2] := by
  obtain ⟨o, n, t1, t2, ho, hc, hd⟩ := tup_heap I h
  unfold G.tupKeyC
  have e1 : G.isTupObj s.heap (.ref t) = true := by simp [G.isTupObj, ho, hc]
  rw [if_pos e1]
  simp only [tupKey, ho, hd]
  rfl
theorem tups_of {pins : List (Addr × Obj)} {σ : L2.St} {H : Hp} {s : Shared} (I : Inv X pins σ H s) : ∀ {ts : List Addr} {ps : List My.Pi}, PP H ts ps → ∃ fs, TupsOf s.heap sh0 (ts.map Value.ref) fs
  | _, _, .nil => ⟨[], .nil⟩
  | _, _, .cons h r => by
    obtain ⟨fs, k⟩ := tups_of I r
    obtain ⟨o, n, t1, t2, ho, hc, hd⟩ := tup_heap I h
    exact ⟨_, .cons ⟨_, o, _, n, rfl, ho, hc, hd, rfl, fun _ => ⟨_, _, rfl⟩, fun e => absurd e (by decide)⟩ k⟩
/-- sorted(xs) of a list of pairs of ints, of any length -/
def rSortedT (K : PySem.W.Frag) : List V → Hp → VK → Prop := fun vs H Q => ∃ (a : Addr) (ts : List Addr) (ps : List My.Pi), vs = [V.ref a] ∧ SqL K H a (ts.map V.ref) ∧ PP H ts ps ∧ ps.length ≤ 512 ∧
  ∀ (us : List Addr) (cs : List My.Pi) (p : Addr), PP H us cs → cs.Perm ps → cs.Pairwise My.LexI → H p = none → Q (.ref p) (L2.upd H p (.lst (us.map V.ref)))
theorem cr_sortedT : CallR X (.builtin "sorted") (rSortedT X.K) := by
  intro pins s σ H vs us Q I r h
  obtain ⟨a, ts, ps, rfl, hs, hp, hn, q⟩ := h
  obtain ⟨its, rv, hl, _⟩ := I.list hs
  rw [Vals.ref1 r]
  have eits : its = ts.map Value.ref := refs_at rv
  subst eits
  obtain ⟨ep, kp⟩ := hp.vals
  obtain ⟨fs, hT⟩ := tups_of I hp
  have hL0 : ts.length ≤ 512 := by rw [hp.length]; exact hn
  have hL : (ts.map Value.ref).length ≤ sizeLine := by rw [List.length_map]; exact small256 hL0
  refine G.sorted_tups (shape := sh0) (vs := ts.map Value.ref) (fs := fs) hl.isList hT (fun v hv => ?_) hL fun st' hperm hsort _ => ?_
  · obtain ⟨t, ht, rfl⟩ := List.mem_map.mp hv
    exact ⟨_, tup_key I (kp t ht)⟩
  · generalize hA : arrOf st' = arr at *
    have pl : arr.toList.Perm ((ts.map Value.ref).zip (ts.map Value.ref)) := by
      have e := Array.perm_iff_toList_perm.mp hperm
      rw [pairsOf_toList] at e
      exact e
    have p2 : (arr.map (·.2)).toList.Perm (ts.map Value.ref) := by
      rw [Array.toList_map]
      refine (pl.map (·.2)).trans (List.Perm.of_eq ?_)
      rw [List.map_snd_zip (by simp)]
    have same12 : ∀ p, p ∈ arr.toList → p.1 = p.2 ∧ p.1 ∈ ts.map Value.ref := fun p hp' => mem_zip_self (pl.mem_iff.mp hp')
    generalize hout : arr.map (·.2) = out at *
    have hv : ∀ v, v ∈ out.toList → ∃ t, t ∈ ts ∧ v = Value.ref t := fun v h => by
      obtain ⟨t, ht, e⟩ := List.mem_map.mp (p2.mem_iff.mp h)
      exact ⟨t, ht, e.symm⟩
    have huse : (out.toList.map addrOf).map Value.ref = out.toList := by
      rw [List.map_map]
      refine Eq.trans (List.map_congr_left (g := id) fun v h => ?_) (List.map_id _)
      obtain ⟨t, _, rfl⟩ := hv v h
      rfl
    have hus : (out.toList.map addrOf).Perm ts := by
      refine (p2.map addrOf).trans (List.Perm.of_eq ?_)
      rw [List.map_map]
      exact Eq.trans (List.map_congr_left (g := id) fun v _ => rfl) (List.map_id _)
    have hat : ∀ (i : Nat) (p : Value × Value), arr[i]? = some p → (out.toList.map addrOf)[i]? = some (addrOf p.2) := fun i p h => by
      rw [List.getElem?_map, Array.getElem?_toList, ← hout, Array.getElem?_map, h]
      rfl
    generalize hU : out.toList.map addrOf = us' at *
    have kk : ∀ i (hi : i < us'.length), KK (G.tupKindC s.heap sh0) arr i = [Sum.inl (valAt H us'[i]).1, Sum.inl (valAt H us'[i]).2] := fun i hi => by
      have hlen : us'.length = arr.size := by
        rw [← hU, List.length_map, Array.length_toList, ← hout, Array.size_map]
      have hia : i < arr.size := by omega
      have e0 : arr[i]? = some arr[i] := Array.getElem?_eq_getElem hia
      have e1 := hat i _ e0
      obtain ⟨e2, e3⟩ := same12 arr[i] (by simp)
      obtain ⟨t, ht, e4⟩ := List.mem_map.mp e3
      have e5 : us'[i] = t := by
        rw [List.getElem?_eq_getElem hi] at e1
        have := Option.some.inj e1
        rw [this, ← e2, ← e4]
        rfl
      unfold KK
      rw [e0]
      show (G.tupKeyC s.heap sh0 (arr[i]).1).getD [] = _
      rw [← e4, tup_key I (kp t ht), e5]
      rfl
    obtain ⟨epo, he'⟩ := sortedAll_at s.heap (ts.map Value.ref) out
    have hlen2 : us'.length = ts.length := hus.length_eq
    refine ⟨.ref _, L2.upd H (s.heap.objs.size + 1) (.lst (us'.map V.ref)), I.laid (t' := s.toks) (fun _ _ => sortedAll_old) (Nat.le_succ _) ⟨by rw [List.length_map, hlen2]; exact small256 hL0, out.toList, epo, ?_, he'⟩, rfl,
      q us' (us'.map (valAt H)) _ (PP.of fun t ht => kp t (hus.mem_iff.mp ht)) ?_ ?_ (I.hok.fresh (Nat.le_succ _))⟩
    · rw [← huse]
      exact vals_refs us'
    · rw [ep]
      exact hus.map _
    · rw [List.pairwise_map]
      refine List.pairwise_iff_getElem.mpr fun i j hi hj hij => ?_
      have z := hsort i j (Nat.le_of_lt hij) (by rw [pairsOf_size, List.length_map]; omega)
      rw [kk i hi, kk j hj] at z
      exact lex_items z
end
theorem yes_turn {σ : L2.St} {H : Hp} {R : Bool → Hp → Prop} (h : R true H) : tYes σ H R := h
/-! ### corners_of -/
theorem take_snoc {α : Type} : ∀ {l : List α} {i : Nat} {x : α}, l[i]? = some x → l.take (i + 1) = l.take i ++ [x]
  | [], i, x, h => by simp at h
  | a :: l, 0, x, h => by
    have e : a = x := Option.some.inj h
    subst e
    rfl
  | a :: l, i + 1, x, h => by
    have ih := take_snoc (l := l) (i := i) (x := x) h
    show a :: l.take (i + 1) = a :: l.take i ++ [x]
    rw [ih]
    rfl
def spCorners (K : PySem.W.Frag) : Sp := fun vs H Q _ => ∃ (k : Int) (a : Addr) (ns : List Int), vs = [.int k, .ref a] ∧ SqL K H a (ns.map V.int) ∧ 0 ≤ k ∧ k ≤ 256 ∧ (ns.length : Int) = 2 * k ∧
  ∀ (H' : Hp) (l : Addr) (ts : List Addr), Same H H' → H' l = some (.lst (ts.map V.ref)) → PP H' ts (My.pairs ns) → Q (.ref l) H'
def spWorth : Sp := fun vs H Q _ => ∃ (l : Addr) (ts : List Addr) (ps : List My.Pi), vs = [.ref l] ∧ H l = some (.lst (ts.map V.ref)) ∧ PP H ts ps ∧ ps ≠ [] ∧ ps.length ≤ 512 ∧ ∀ (b : Bool) (H' : Hp), Same H H' → (b = true ↔ My.Worth ps) → Q (.bl b) H'
def spOutline : Sp := fun vs H Q _ => ∃ (l : Addr) (ts : List Addr) (ps : List My.Pi), vs = [.ref l] ∧ H l = some (.lst (ts.map V.ref)) ∧ PP H ts ps ∧ ps.length ≤ 512 ∧ (∀ z, z ∈ ps → Bnd z) ∧
  ∀ (H' : Hp) (o : Addr) (us : List Addr) (cs : List My.Pi), Same H H' → cs.Perm ps → cs.Pairwise My.LexI → H' o = some (.lst (us.map V.ref)) → PP H' us (cs.foldl My.pushI []).reverse → Q (.ref o) H'
section
variable {P : Program} {w : World} {K : PySem.W.Frag} {mg : Str → Option Value} {base : Heap}
theorem ints_at {ns : List Int} {j : Nat} {x : Int} (h : ns[j]? = some x) : (ns.map V.int)[j]? = some (V.int x) := by
  rw [List.getElem?_map, h]
  rfl
theorem ok_corners_of {f : Addr} {fd : FuncData} (F : Fun K "corners_of" "corners_of" s_corners_of f fd) (mR : mg "range" = none) : FnOk P w K mg base CX0 1 f fd ["k", "p"] (spCorners K) := by
  refine F.ok sc_corners_of (fun vs H Q E h => ?_) (fun cdv A outer s H vs Q E hr h => ?_)
  · obtain ⟨k, a, ns, rfl, _⟩ := h
    rfl
  · obtain ⟨k, a, ns, rfl, hS, h0, h1, hl, q⟩ := h
    refine ⟨_, pss_one (ps_ret (pe_lc (own := [("place", 2)]) rfl sc_corners_of.nd (pi_range1 rfl mR (pa_cons (pv 0) pa_nil)) (blkOk_by (by change blkC ["k", "p", "place"] (defScope s_corners_of) _ _ = true; decide +kernel)) (fun _ _ _ _ _ => pg_name (i := 2) sc_corners_of.nd rfl (Or.inl rfl)) (fun _ _ _ _ _ => pts_nil)
      (fun _ _ _ _ _ => pe_tup (pa_cons (pe_ix (r := rIxL K) ix_list (pv 1) (pe_op op_mul pe_int (pv 2)) (fun _ _ => rfl)) (pa_cons (pe_ix (r := rIxL K) ix_list (pv 1) (pe_op op_add (pe_op op_mul pe_int (pv 2)) pe_int) (fun _ _ => rfl)) pa_nil))))), ?_⟩
    have hn : ns.length = 2 * k.toNat := by omega
    refine ⟨_, rfl, k, rfl, by omega, by omega, fun D hD => lc_range (lo := 0) (n := k.toNat) (fun i H' => ∃ ts : List Addr, Same H H' ∧ H' D = some (.lst (ts.map V.ref)) ∧ PP H' ts ((My.pairs ns).take i)) ⟨[], Same.upd hD, upd_same, .nil⟩ ?_ ?_⟩
    · rintro i H' hi ⟨ts, sm, hD', hp⟩
      have i1 : 2 * i < ns.length := by omega
      have i2 : 2 * i + 1 < ns.length := by omega
      have g1 : ns[2 * i]? = some ns[2 * i] := List.getElem?_eq_getElem i1
      have g2 : ns[2 * i + 1]? = some ns[2 * i + 1] := List.getElem?_eq_getElem i2
      have gp := My.pairs_at g1 g2
      have hlt : ts.length ≤ 512 := by
        rw [hp.length, List.length_take]
        have := Nat.min_le_left i (My.pairs ns).length
        omega
      refine ⟨rfl, yes_turn (iteT ?_)⟩
      refine ⟨_, rfl, _, rfl, _, _, rfl, rfl, .inl ⟨by decide, by decide⟩, _, _, _, _, rfl, rfl, sm.seq hS, at_of (j := 2 * i) (by omega) (ints_at g1), ?_⟩
      refine ⟨_, rfl, _, rfl, _, _, rfl, rfl, .inl ⟨by decide, by decide⟩, _, _, rfl, rfl, _, _, _, _, rfl, rfl, sm.seq hS, at_of (j := 2 * i + 1) (by omega) (ints_at g2), (by show 2 ≤ sizeLine; decide), fun p hp' => ?_⟩
      have nDp : D ≠ p := ne_of_none hD' hp'
      refine ⟨ts.map V.ref, by rw [upd_ne nDp]; exact hD', by rw [List.length_map]; exact less256 hlt, ts ++ [p], fun b o e => ?_, ?_, ?_⟩
      · have e1 := sm b o e
        rw [upd_ne (ne_of_none e hD), upd_ne (ne_of_none e1 hp')]
        exact e1
      · rw [upd_same, List.map_append]
        rfl
      · rw [take_snoc gp]
        have hD2 : (L2.upd H' p (.tup [V.int ns[2 * i], V.int ns[2 * i + 1]])) D = some (.lst (ts.map V.ref)) := by rw [upd_ne nDp]; exact hD'
        refine PP.upd hD2 (PP.append (hp.same (Same.upd hp')) (PP.one ?_))
        exact upd_same
    · rintro H' ⟨ts, sm, hD', hp⟩
      rw [List.take_of_length_le (by rw [My.pairs_length hn]; exact Nat.le_refl _)] at hp
      exact q H' D ts sm hD' hp
/-! ### are_worth_a_deal -/
theorem worth_iff {ps : List My.Pi} {m1 m2 : Int} (h1 : m1 ∈ ps.map (·.1)) (h1' : ∀ y, y ∈ ps.map (·.1) → y ≤ m1) (h2 : m2 ∈ ps.map (·.2)) (h2' : ∀ y, y ∈ ps.map (·.2) → y ≤ m2) :
    My.Worth ps ↔ m1 ≤ 1000 ∧ m2 ≤ 1000 ∧ 0 < m1 ∧ 0 < m2 := by
  obtain ⟨v1, hv1, e1⟩ := List.mem_map.mp h1
  obtain ⟨v2, hv2, e2⟩ := List.mem_map.mp h2
  have e1 : v1.1 = m1 := e1
  have e2 : v2.2 = m2 := e2
  constructor
  · rintro ⟨a, ⟨b, hb, hb'⟩, ⟨c, hc, hc'⟩⟩
    have q1 := (a v1 hv1).1
    have q2 := (a v2 hv2).2
    have q3 := h1' b.1 (List.mem_map.mpr ⟨b, hb, rfl⟩)
    have q4 := h2' c.2 (List.mem_map.mpr ⟨c, hc, rfl⟩)
    omega
  · rintro ⟨a, b, c, d⟩
    refine ⟨fun v hv => ?_, ⟨v1, hv1, by omega⟩, ⟨v2, hv2, by omega⟩⟩
    have q3 := h1' v.1 (List.mem_map.mpr ⟨v, hv, rfl⟩)
    have q4 := h2' v.2 (List.mem_map.mpr ⟨v, hv, rfl⟩)
    omega
theorem ok_are_worth_a_deal {f : Addr} {fd : FuncData} {tk : Tok} (F : Fun K "are_worth_a_deal" "are_worth_a_deal" s_are_worth_a_deal f fd) (mM : mg "max" = none) (mN : mg "MOST_NUMBER" = some (.int 1000 tk)) : FnOk P w K mg base CX0 1 f fd ["corners"] spWorth := by
  refine F.ok sc_are_worth_a_deal (fun vs H Q E h => ?_) (fun cdv A outer s H vs Q E hr h => ?_)
  · obtain ⟨l, ts, ps, rfl, _⟩ := h
    rfl
  · obtain ⟨l, ts, ps, rfl, hl, hp, hne, hn, q⟩ := h
    refine ⟨_, pss_cons (ps_set (i := 1) sc_are_worth_a_deal.nd rfl (Or.inl rfl) (pe_callB (cr_max rfl) rfl mM boot_max (pa_cons (pe_lc (own := [("corner", 3)]) rfl sc_are_worth_a_deal.nd (pi_list (pv 0)) (blkOk_by (by change blkC ["corners", "most_first", "most_second", "corner"] (defScope s_are_worth_a_deal) _ _ = true; decide +kernel)) (fun _ _ _ _ _ => pg_name (i := 3) sc_are_worth_a_deal.nd rfl (Or.inl rfl)) (fun _ _ _ _ _ => pts_nil)
        (fun _ _ _ _ _ => pe_ix (r := rIxT K) ix_tup (pv 3) pe_int (fun _ _ => rfl))) pa_nil)))
      (pss_cons (ps_set (i := 2) sc_are_worth_a_deal.nd rfl (Or.inl rfl) (pe_callB (cr_max rfl) rfl mM boot_max (pa_cons (pe_lc (own := [("corner", 3)]) rfl sc_are_worth_a_deal.nd (pi_list (pv 0)) (blkOk_by (by change blkC ["corners", "most_first", "most_second", "corner"] (defScope s_are_worth_a_deal) _ _ = true; decide +kernel)) (fun _ _ _ _ _ => pg_name (i := 3) sc_are_worth_a_deal.nd rfl (Or.inl rfl)) (fun _ _ _ _ _ => pts_nil)
        (fun _ _ _ _ _ => pe_ix (r := rIxT K) ix_tup (pv 3) pe_int (fun _ _ => rfl))) pa_nil)))
      (pss_cons (ps_if (PW.pt (pw_or (pt_cmp (pc_gt (pv 1) (pe_glob (v := .int 1000) rfl mN ⟨_, rfl⟩))) (pw_or1 (pt_cmp (pc_gt (pv 2) (pe_glob (v := .int 1000) rfl mN ⟨_, rfl⟩)))))) (pss_one (ps_ret pe_bl)) pss_nil)
      (pss_one (ps_ret (pe_and (pe_cmp (pc_gt (pv 1) pe_int)) (pe_one (pe_cmp (pc_gt (pv 2) pe_int)))))))), ?_⟩
    have hpos : 0 < ps.length := List.length_pos_iff.mpr hne
    refine ⟨_, rfl, l, rfl, ⟨_, SqL.of hl⟩, fun D hD => lc_list (K := K) (a := l) (xs := ts.map V.ref) (fun i H' => Same H H' ∧ H' D = some (.lst (((ps.take i).map (·.1)).map V.int))) ⟨Same.upd hD, upd_same⟩ (fun i H' _ z => SqL.of (z.1 _ _ hl)) ?_ ?_⟩
    · rintro i x H' hx ⟨sm, hD'⟩
      obtain ⟨t, ht, rfl⟩ := of_map_at hx
      obtain ⟨v, hv, hpt⟩ := hp.get' ht
      refine ⟨rfl, yes_turn (iteT ?_)⟩
      refine ⟨_, rfl, _, _, _, _, rfl, rfl, SqT.of (sm _ _ hpt), at0 _ _, _, hD', ?_, fun b o e => ?_, ?_⟩
      · rw [List.length_map, List.length_map, List.length_take]
        exact less256 (Nat.le_trans (Nat.min_le_right _ _) hn)
      · rw [upd_ne (ne_of_none e hD)]
        exact sm b o e
      · rw [upd_same, take_snoc hv, List.map_append, List.map_append]
        rfl
    · rintro H1 ⟨s1, hD1⟩
      rw [List.length_map, hp.length, List.take_length] at hD1
      refine ⟨D, _, rfl, SqL.of hD1, by rw [List.length_map]; exact hpos, fun m1 hm1 hm1' => ?_⟩
      have hl1 := s1 _ _ hl
      have hp1 := hp.same s1
      refine ⟨_, rfl, l, rfl, ⟨_, SqL.of hl1⟩, fun D2 hD2 => lc_list (K := K) (a := l) (xs := ts.map V.ref) (fun i H' => Same H1 H' ∧ H' D2 = some (.lst (((ps.take i).map (·.2)).map V.int))) ⟨Same.upd hD2, upd_same⟩ (fun i H' _ z => SqL.of (z.1 _ _ hl1)) ?_ ?_⟩
      · rintro i x H' hx ⟨sm, hD'⟩
        obtain ⟨t, ht, rfl⟩ := of_map_at hx
        obtain ⟨v, hv, hpt⟩ := hp1.get' ht
        refine ⟨rfl, yes_turn (iteT ?_)⟩
        refine ⟨_, rfl, _, _, _, _, rfl, rfl, SqT.of (sm _ _ hpt), at1 _ _, _, hD', ?_, fun b o e => ?_, ?_⟩
        · rw [List.length_map, List.length_map, List.length_take]
          exact less256 (Nat.le_trans (Nat.min_le_right _ _) hn)
        · rw [upd_ne (ne_of_none e hD2)]
          exact sm b o e
        · rw [upd_same, take_snoc hv, List.map_append, List.map_append]
          rfl
      · rintro H2 ⟨s2, hD2'⟩
        rw [List.length_map, hp.length, List.take_length] at hD2'
        refine ⟨D2, _, rfl, SqL.of hD2', by rw [List.length_map]; exact hpos, fun m2 hm2 hm2' => ?_⟩
        have wi := worth_iff hm1 hm1' hm2 hm2'
        have s12 := s1.trans s2
        refine ⟨_, rfl, _, _, rfl, rfl, _, rfl, ?_⟩
        by_cases c1 : 1000 < m1
        · refine iteY (decide_eq_true c1) (iteT ?_)
          exact q false H2 s12 (by rw [wi]; simp; omega)
        · refine iteN (by simpa using c1) ?_
          refine ⟨_, rfl, _, _, rfl, rfl, _, rfl, ?_⟩
          by_cases c2 : 1000 < m2
          · refine iteY (decide_eq_true c2) ?_
            exact q false H2 s12 (by rw [wi]; simp; omega)
          · refine iteN (by simpa using c2) ?_
            refine ⟨_, rfl, _, _, rfl, rfl, _, rfl, ?_⟩
            by_cases c3 : 0 < m1
            · refine iteY (decide_eq_true c3) ?_
              refine ⟨_, rfl, _, _, rfl, rfl, ?_⟩
              refine q _ H2 s12 ?_
              rw [wi, decide_eq_true_iff]
              omega
            · refine iteN (by simpa using c3) ?_
              exact q false H2 s12 (by rw [wi]; simp; omega)
end
end Prog
set_option Elab.async false
set_option linter.all false
set_option maxRecDepth 100000
set_option maxHeartbeats 2000000
namespace Prog
open PySem PySem.Spec PyProof.Rows L2
open PySem.W (Codec)
/-! ### outline_of -/
theorem pop_mem {c : My.Pi} : ∀ {l : List My.Pi} {v : My.Pi}, v ∈ My.popI l c → v ∈ l
  | [], v, h => h
  | b :: r, v, h => by
    unfold My.popI at h
    split at h
    · exact List.mem_cons_of_mem _ (pop_mem h)
    · exact h
theorem pop_length {c : My.Pi} : ∀ (l : List My.Pi), (My.popI l c).length ≤ l.length
  | [] => Nat.le_refl _
  | b :: r => by
    unfold My.popI
    split
    · exact Nat.le_trans (pop_length r) (Nat.le_succ _)
    · exact Nat.le_refl _
theorem fold_mem : ∀ {cs l : List My.Pi} {v : My.Pi}, v ∈ cs.foldl My.pushI l → v ∈ cs ∨ v ∈ l
  | [], l, v, h => .inr h
  | c :: cs, l, v, h => by
    rw [List.foldl_cons] at h
    rcases fold_mem h with h | h
    · exact .inl (List.mem_cons_of_mem _ h)
    · rcases List.mem_cons.mp h with rfl | h
      · exact .inl (List.mem_cons_self ..)
      · exact .inr (pop_mem h)
theorem fold_length : ∀ (cs l : List My.Pi), (cs.foldl My.pushI l).length ≤ cs.length + l.length
  | [], l => by simp
  | c :: cs, l => by
    rw [List.foldl_cons]
    have h1 := fold_length cs (My.pushI l c)
    have h2 : (My.pushI l c).length ≤ l.length + 1 := Nat.succ_le_succ (pop_length l)
    rw [List.length_cons]
    omega
theorem pop_yes {b c : My.Pi} {r : List My.Pi} (h : My.needless (b :: r) c = true) : My.popI (b :: r) c = My.popI r c := by
  show (if My.needless (b :: r) c = true then My.popI r c else b :: r) = _
  rw [if_pos h]
theorem pop_no {c : My.Pi} : ∀ {st : List My.Pi}, My.needless st c = false → My.popI st c = st
  | [], _ => rfl
  | b :: r, h => by
    show (if My.needless (b :: r) c = true then My.popI r c else b :: r) = _
    rw [if_neg (by rw [h]; exact Bool.false_ne_true)]
section
variable {P : Program} {w : World} {K : PySem.W.Frag} {mg : Str → Option Value} {base : Heap}
theorem ok_outline_of {f fN : Addr} {fd fdN : FuncData} (F : Fun K "outline_of" "outline_of" s_outline_of f fd) (mS : mg "sorted" = none) (G : FnOk P w K mg base CX0 2 fN fdN ["outline", "corner"] spNeedless) (mN : mg "is_last_needless" = some (.ref fN)) (kN : PySem.W.keepIn K (.ref fN) = true)
    (bN : Binds K fdN ["outline", "corner"] []) : FnOk P w K mg base CX0 3 f fd ["corners"] spOutline := by
  refine F.ok sc_outline_of (fun vs H Q E h => ?_) (fun cdv A outer s H vs Q E hr h => ?_)
  · obtain ⟨l, ts, ps, rfl, _⟩ := h
    rfl
  · obtain ⟨l, ts, ps, rfl, hl, hp, hn, hb, q⟩ := h
    refine ⟨_, pss_cons (ps_set (i := 1) sc_outline_of.nd rfl (Or.inl rfl) (pe_lst pa_nil))
      (pss_cons (ps_for PassesOwn.never rfl (pi_list (pe_callB cr_sortedT rfl mS boot_sorted (pa_cons (pv 0) pa_nil))) (pg_name (i := 2) sc_outline_of.nd rfl (Or.inl rfl))
        (pss_cons (ps_while PassesOwn.never (pt_val (pe_call G hr rfl mN kN bN .nil pass0 (pa_cons (pv 1) (pa_cons (pv 2) pa_nil)))) (pss_one (ps_expr (pe_bm0 PySem.F.plainAttrs_list PySem.F.slot_list_pop PySem.F.type_list_pop mt_pop (pv 1)))))
        (pss_one (ps_expr (pe_bm PySem.F.plainAttrs_list PySem.F.slot_list_append PySem.F.type_list_append mt_append (pv 1) (pa_cons (pv 2) pa_nil))))))
      (pss_one (ps_ret (pv 1)))), ?_⟩
    refine ⟨Nat.zero_le _, fun o ho => ?_⟩
    have s0 : Same H (L2.upd H o (.lst [])) := Same.upd ho
    refine ⟨_, rfl, l, ts, ps, rfl, SqL.of (s0 _ _ hl), hp.same s0, hn, fun ss cs p hss hperm hsort hpn => ?_⟩
    have nop : o ≠ p := ne_of_none (show (L2.upd H o (.lst [])) o = some (.lst []) from upd_same) hpn
    have s1 : Same (L2.upd H o (.lst [])) (L2.upd (L2.upd H o (.lst [])) p (.lst (ss.map V.ref))) := Same.upd hpn
    have hbc : ∀ z, z ∈ cs → Bnd z := fun z hz => hb z (hperm.mem_iff.mp hz)
    have hcl : cs.length ≤ 512 := by rw [hperm.length_eq]; exact hn
    refine ⟨p, rfl, ⟨_, SqL.of upd_same⟩, for_list (K := K) (a := p) (xs := ss.map V.ref) (fun i σ H' => ∃ (v : Option V) (us : List Addr), σ = [some (.ref l), some (.ref o), v] ∧ Same H H' ∧ H' p = some (.lst (ss.map V.ref)) ∧ PP H' ss cs ∧
        H' o = some (.lst (us.map V.ref)) ∧ PP H' us ((cs.take i).foldl My.pushI []).reverse)
      ⟨none, [], rfl, s0.trans s1, upd_same, hss.same s1, s1 _ _ upd_same, .nil⟩ (fun i σ H' _ ⟨_, _, _, _, h, _⟩ => SqL.of h) ?_ ?_⟩
    · rintro i x σ H' hx ⟨v, us, rfl, sm, hp', hss', ho', hu⟩
      obtain ⟨t, ht, rfl⟩ := of_map_at hx
      obtain ⟨c, hc, hpt⟩ := hss'.get' ht
      have hnc := hbc c (List.mem_of_getElem? hc)
      have hti : cs.take (i + 1) = cs.take i ++ [c] := take_snoc hc
      have hnext : (cs.take (i + 1)).foldl My.pushI [] = My.pushI ((cs.take i).foldl My.pushI []) c := by
        rw [hti, List.foldl_append]
        rfl
      have hst : ∀ z, z ∈ (cs.take i).foldl My.pushI [] → Bnd z := fun z hz => by
        rcases fold_mem hz with h | h
        · exact hbc z (List.mem_of_mem_take h)
        · exact nomatch h
      have hstl : ((cs.take i).foldl My.pushI []).length ≤ 512 := by
        have h1 := fold_length (cs.take i) []
        have h2 : (cs.take i).length ≤ cs.length := List.length_take_le' _ _
        rw [List.length_nil] at h1
        omega
      generalize hS : (cs.take i).foldl My.pushI [] = S at *
      -- while is_last_needless(outline, corner): outline.pop()
      refine ⟨fun m σ H2 => ∃ (us2 : List Addr) (st : List My.Pi), σ = [some (.ref l), some (.ref o), some (.ref t)] ∧ m = st.length ∧ Same H H2 ∧ H2 p = some (.lst (ss.map V.ref)) ∧ PP H2 ss cs ∧ PtAt H2 t c ∧
          H2 o = some (.lst (us2.map V.ref)) ∧ PP H2 us2 st.reverse ∧ My.popI st c = My.popI S c ∧ (∀ z, z ∈ st → Bnd z) ∧ st.length ≤ 512,
        ⟨_, us, S, rfl, rfl, sm, hp', hss', hpt, ho', hu, rfl, hst, hstl⟩, ?_⟩
      rintro m σ H2 ⟨us2, st, rfl, rfl, sm2, hp2, hss2, hpt2, ho2, hu2, hpop, hst2, hlen2⟩
      refine ⟨_, rfl, _, rfl, o, t, us2, st, c, rfl, ho2, hu2, hpt2, hnc, hst2, _, rfl, ?_⟩
      have npo : p ≠ o := nop.symm
      cases hN : My.needless st c with
      | true =>
        refine iteT ?_
        refine ⟨_, fun _ _ h => h, ?_⟩
        match st, hN, hu2, hpop, hst2, hlen2 with
        | [], hN, _, _, _, _ => exact absurd hN (by simp [My.needless])
        | b :: r, hN, hu2, hpop, hst2, hlen2 =>
          rw [List.reverse_cons] at hu2
          obtain ⟨us3, t3, rfl, hu3, ht3⟩ := hu2.snoc
          refine ⟨_, rfl, .inl ⟨rfl, _, SqL.of ho2⟩, o, _, V.ref t3, rfl, rfl, ho2, by simp, ?_⟩
          refine ⟨r.length, by simp, us3, r, rfl, rfl, fun b' o' e => ?_, ?_, hss2.upd ho2, hpt2.upd ho2, ?_, hu3.upd ho2, ?_, fun z hz => hst2 z (List.mem_cons_of_mem _ hz), ?_⟩
          · rw [upd_ne (ne_of_none e ho)]
            exact sm2 b' o' e
          · rw [upd_ne npo]
            exact hp2
          · rw [upd_same, List.map_append]
            simp
          · rw [← hpop, pop_yes hN]
          · rw [List.length_cons] at hlen2
            omega
      | false =>
        refine iteF ?_
        -- outline.append(corner)
        refine ⟨_, rfl, .inl ⟨rfl, _, SqL.of ho2⟩, _, rfl, o, _, _, rfl, rfl, ho2, ?_, ?_⟩
        · rw [List.length_map, hu2.length, List.length_reverse]
          exact less256 hlen2
        · refine ⟨_, us2 ++ [t], rfl, fun b' o' e => ?_, ?_, hss2.upd ho2, ?_, ?_⟩
          · rw [upd_ne (ne_of_none e ho)]
            exact sm2 b' o' e
          · rw [upd_ne npo]
            exact hp2
          · rw [upd_same, List.map_append]
            rfl
          · rw [hnext]
            show PP _ _ (c :: My.popI S c).reverse
            rw [← hpop, pop_no hN, List.reverse_cons]
            exact PP.append (hu2.upd ho2) (PP.one (hpt2.upd ho2))
    · rintro σ H' ⟨v, us, rfl, sm, hp', hss', ho', hu⟩
      refine ⟨_, rfl, ?_⟩
      rw [List.length_map, hss'.length, List.take_length] at hu
      exact q H' o us cs sm hperm hsort ho' hu
/-! ### greatest_product -/
def Down : List My.Pi → Prop
  | a :: b :: r => a.1 < b.1 ∧ b.2 ≤ a.2 ∧ Down (b :: r)
  | _ => True
theorem down_drop : ∀ {l : List My.Pi} (i : Nat), Down l → Down (l.drop i)
  | l, 0, h => h
  | [], _ + 1, _ => trivial
  | [a], i + 1, _ => by simp [Down]
  | a :: b :: r, i + 1, h => down_drop (l := b :: r) i h.2.2
theorem down_of {D : My.Pt → Prop} : ∀ {l : List My.Pi}, My.FC D (l.map My.toR) → Down l
  | [], _ => trivial
  | [a], _ => trivial
  | a :: b :: r, ⟨h1, h2, _, h4⟩ => ⟨Rat.intCast_lt_intCast.mp h1, Rat.intCast_le_intCast.mp h2, down_of (l := b :: r) h4⟩
theorem frac_len (u l : Int) : ((My.frac u l).map V.int).length = 2 := rfl
theorem two_fracs {Q : VK} {H H1 H2 : Hp} {p1 p2 : Addr} {u l u2 l2 : Int} {xs : List Int} (s1 : Same H H1) (s2 : Same H1 H2) (e1 : H1 p1 = some (.lst ((My.frac u l).map V.int))) (e2 : H2 p2 = some (.lst ((My.frac u2 l2).map V.int))) (hx : xs = My.frac u l ++ My.frac u2 l2)
    (k : ∀ (H' : Hp) (p : Addr), Same H H' → H' p = some (.lst (xs.map V.int)) → Q (.ref p) H') : rCat (.ref p1) (.ref p2) H2 Q := by
  refine ⟨p1, p2, _, _, rfl, rfl, s2 _ _ e1, e2, (by show 2 + 2 ≤ sizeLine; decide), fun p hp => ?_⟩
  refine k _ p ((s1.trans s2).trans (Same.upd hp)) ?_
  rw [upd_same, hx, List.map_append]
theorem at_neg1 {us : List Addr} {t : Addr} {n : Nat} (hl : us.length = n) (hn : 0 < n) (h : us[n - 1]? = some t) : atI (us.map V.ref) (-1) = some (V.ref t) := by
  have e : us = us.dropLast ++ [t] := by
    have hne : us ≠ [] := fun z => by
      rw [z] at hl
      simp at hl
      omega
    have h1 := (List.dropLast_concat_getLast hne).symm
    have h2 : us.getLast hne = t := by
      have h3 := List.getLast?_eq_getElem? (l := us)
      rw [hl, h, List.getLast?_eq_getLast hne] at h3
      exact Option.some.inj h3
    rw [h2] at h1
    exact h1
  rw [e]
  exact at_last _ _
theorem drop_last {α : Type} {l : List α} {z : α} (h : l[l.length - 1]? = some z) : l.drop (l.length - 1) = [z] := by
  have hlt : l.length - 1 < l.length := by
    rcases Nat.lt_or_ge (l.length - 1) l.length with q | q
    · exact q
    · rw [List.getElem?_eq_none q] at h
      cases h
  rw [List.drop_eq_getElem_cons hlt, List.drop_eq_nil_of_le (by omega)]
  rw [List.getElem?_eq_getElem hlt] at h
  rw [Option.some.inj h]
/-- what an outline keeps -/
structure OA (ps os : List My.Pi) : Prop where
  out : My.Out ps os
  ne : os ≠ []
  len : os.length ≤ 512
  down : Down os
  bnd : ∀ z, z ∈ os → Bnd z
  nn : ∀ v, v ∈ ps → 0 ≤ v.1 ∧ 0 ≤ v.2
  g1 : ∃ v, v ∈ ps ∧ 0 < v.1
  g2 : ∃ v, v ∈ ps ∧ 0 < v.2
theorem OA.of {ps cs : List My.Pi} (hw : My.Worth ps) (nn : ∀ v, v ∈ ps → 0 ≤ v.1 ∧ 0 ≤ v.2) (hl : ps.length ≤ 512) (hne : ps ≠ []) (hp : cs.Perm ps) (hs : cs.Pairwise My.LexI) : OA ps (cs.foldl My.pushI []).reverse := by
  have hcne : cs ≠ [] := fun e => by
    rw [e] at hp
    exact hne hp.nil_eq.symm
  have O := My.out_of hcne hp hs
  refine ⟨O, fun e => ?_, ?_, down_of O.fc, fun z hz => ?_, nn, hw.some1, hw.some2⟩
  · have := O.fc
    rw [e] at this
    exact this.elim
  · rw [List.length_reverse]
    have h1 := fold_length cs []
    have h2 := hp.length_eq
    rw [List.length_nil] at h1
    omega
  · have m := O.mem z hz
    exact ⟨(nn z m).1, (hw.small z m).1, (nn z m).2, (hw.small z m).2⟩
/-- of an outline, numbers -/
def spOut (g : List My.Pi → List Int) : Sp := fun vs H Q _ => ∃ (o : Addr) (us : List Addr) (ps os : List My.Pi), vs = [.ref o] ∧ H o = some (.lst (us.map V.ref)) ∧ PP H us os ∧ OA ps os ∧
  ∀ (H' : Hp) (p : Addr), Same H H' → H' p = some (.lst ((g os).map V.int)) → Q (.ref p) H'
/-! ### line_through -/
def BndM (v : My.Pi) : Prop := 0 ≤ v.1 ∧ v.1 ≤ 1000000 ∧ 0 ≤ v.2 ∧ v.2 ≤ 1000000
theorem Bnd.wide {v : My.Pi} (h : Bnd v) : BndM v := by
  obtain ⟨h1, h2, h3, h4⟩ := h
  exact ⟨h1, by omega, h3, by omega⟩
def spLine : Sp := fun vs H Q _ => ∃ (ta tb : Addr) (a b : My.Pi), vs = [.ref ta, .ref tb] ∧ PtAt H ta a ∧ PtAt H tb b ∧ BndM a ∧ BndM b ∧ ∀ (H' : Hp) (p : Addr), Same H H' → H' p = some (.tup [.int (a.2 - b.2), .int (b.1 - a.1), .int (My.reachI a b)]) → Q (.ref p) H'
theorem ok_line_through {f : Addr} {fd : FuncData} (F : Fun K "line_through" "line_through" s_line_through f fd) : FnOk P w K mg base CX0 1 f fd ["left", "right"] spLine := by
  refine F.ok sc_line_through (fun vs H Q E h => ?_) (fun cdv A outer s H vs Q E hr h => ?_)
  · obtain ⟨ta, tb, a, b, rfl, _⟩ := h
    rfl
  · obtain ⟨ta, tb, a, b, rfl, ha, hb, na, nb, k⟩ := h
    refine ⟨_, pss_cons (ps_set (i := 2) sc_line_through.nd rfl (Or.inl rfl) (pe_op op_sub (pe_ix ix_tup (pv 0) pe_int (fun _ _ => rfl)) (pe_ix ix_tup (pv 1) pe_int (fun _ _ => rfl))))
      (pss_cons (ps_set (i := 3) sc_line_through.nd rfl (Or.inl rfl) (pe_op op_sub (pe_ix ix_tup (pv 1) pe_int (fun _ _ => rfl)) (pe_ix ix_tup (pv 0) pe_int (fun _ _ => rfl))))
      (pss_one (ps_ret (pe_tup (pa_cons (pv 2) (pa_cons (pv 3) (pa_cons (pe_op op_add (pe_op op_mul (pv 2) (pe_ix ix_tup (pv 0) pe_int (fun _ _ => rfl))) (pe_op op_mul (pv 3) (pe_ix ix_tup (pv 0) pe_int (fun _ _ => rfl)))) pa_nil))))))), ?_⟩
    obtain ⟨a1, a2, a3, a4⟩ := na
    obtain ⟨b1, b2, b3, b4⟩ := nb
    refine ⟨_, rfl, _, _, _, _, rfl, rfl, SqT.of ha, at1 _ _, _, rfl, _, _, _, _, rfl, rfl, SqT.of hb, at1 _ _, _, _, rfl, rfl, ?_⟩
    refine ⟨_, rfl, _, _, _, _, rfl, rfl, SqT.of hb, at0 _ _, _, rfl, _, _, _, _, rfl, rfl, SqT.of ha, at0 _ _, _, _, rfl, rfl, ?_⟩
    refine ⟨_, rfl, _, rfl, _, rfl, _, rfl, _, _, _, _, rfl, rfl, SqT.of ha, at0 _ _, _, _, rfl, rfl, .inl ⟨by omega, by omega⟩, ?_⟩
    refine ⟨_, rfl, _, rfl, _, _, _, _, rfl, rfl, SqT.of ha, at1 _ _, _, _, rfl, rfl, .inl ⟨by omega, by omega⟩, _, _, rfl, rfl, (by show 3 ≤ sizeLine; decide), fun p hp => ?_⟩
    exact k _ p (Same.upd hp) upd_same
/-! ### refusal_of -/
theorem row_of {k : Int} {p : List Int} (h2 : Ql88Neutral.row k p = true) : (∀ x, x ∈ p → 0 ≤ x ∧ x < 65536) ∧ (p.length : Int) = if 1 ≤ k ∧ k ≤ 256 then 2 * k else 0 := by
  unfold Ql88Neutral.row at h2
  rw [Bool.and_eq_true, List.all_eq_true, decide_eq_true_iff] at h2
  refine ⟨fun x hx => ?_, h2.2⟩
  have := h2.1 x hx
  rw [Bool.and_eq_true, decide_eq_true_iff, decide_eq_true_iff] at this
  exact this
def Refuses (k : Int) (ns : List Int) (r : Int) : Prop := (¬ (1 ≤ k ∧ k ≤ 256) ∧ r = -2) ∨ ((1 ≤ k ∧ k ≤ 256) ∧ ¬ My.Worth (My.pairs ns) ∧ r = -1) ∨ ((1 ≤ k ∧ k ≤ 256) ∧ My.Worth (My.pairs ns) ∧ r = 0)
def spRefusal (K : PySem.W.Frag) : Sp := fun vs H Q _ => ∃ (k : Int) (a : Addr) (ns : List Int), vs = [.int k, .ref a] ∧ SqL K H a (ns.map V.int) ∧ (∀ x, x ∈ ns → 0 ≤ x ∧ x < 65536) ∧ ((ns.length : Int) = if 1 ≤ k ∧ k ≤ 256 then 2 * k else 0) ∧
  ∀ (r : Int) (H' : Hp), Same H H' → Refuses k ns r → Q (.int r) H'
theorem ok_refusal_of {f f1 f2 f3 : Addr} {fd d1 d2 d3 : FuncData} (F : Fun K "refusal_of" "refusal_of" s_refusal_of f fd)
    (G1 : FnOk P w K mg base CX0 1 f1 d1 ["k"] spCount) (m1 : mg "is_count" = some (.ref f1)) (k1 : PySem.W.keepIn K (.ref f1) = true) (b1 : Binds K d1 ["k"] [])
    (G3 : FnOk P w K mg base CX0 1 f3 d3 ["corners"] spWorth) (m3 : mg "are_worth_a_deal" = some (.ref f3)) (k3 : PySem.W.keepIn K (.ref f3) = true) (b3 : Binds K d3 ["corners"] [])
    (G2 : FnOk P w K mg base CX0 1 f2 d2 ["k", "p"] (spCorners K)) (m2 : mg "corners_of" = some (.ref f2)) (k2 : PySem.W.keepIn K (.ref f2) = true) (b2 : Binds K d2 ["k", "p"] []) :
    FnOk P w K mg base CX0 2 f fd ["k", "p"] (spRefusal K) := by
  refine F.ok sc_refusal_of (fun vs H Q E h => ?_) (fun cdv A outer s H vs Q E hr h => ?_)
  · obtain ⟨k, a, ns, rfl, _⟩ := h
    rfl
  · obtain ⟨k, a, ns, rfl, hS, a1, a2, q⟩ := h
    refine ⟨_, pss_cons (ps_if (pt_not (pt_val (pe_call G1 hr rfl m1 k1 b1 .nil pass0 (pa_cons (pv 0) pa_nil)))) (pss_one (ps_ret (pe_un un_neg pe_int))) pss_nil)
      (pss_cons (ps_if (pt_not (pt_val (pe_call G3 hr rfl m3 k3 b3 .nil pass0 (pa_cons (pe_call G2 hr rfl m2 k2 b2 .nil pass0 (pa_cons (pv 0) (pa_cons (pv 1) pa_nil))) pa_nil)))) (pss_one (ps_ret (pe_un un_neg pe_int))) pss_nil)
      (pss_one (ps_ret pe_int))), ?_⟩
    refine ⟨_, rfl, k, rfl, _, rfl, ?_⟩
    by_cases hk : 1 ≤ k ∧ k ≤ 256
    · rw [decide_eq_true hk]
      refine iteF ?_
      rw [if_pos hk] at a2
      have hn : ns.length = 2 * k.toNat := by omega
      refine ⟨_, rfl, _, rfl, k, a, ns, rfl, hS, by omega, by omega, a2, fun H1 l ts s1 hl hp => ?_⟩
      have hpl : (My.pairs ns).length = k.toNat := My.pairs_length hn
      have hne : My.pairs ns ≠ [] := fun e => by
        rw [e] at hpl
        simp at hpl
        omega
      refine ⟨l, ts, _, rfl, hl, hp, hne, by omega, fun b H2 s2 hb => ⟨_, rfl, ?_⟩⟩
      cases b with
      | false =>
        refine iteT ?_
        exact ⟨_, rfl, q _ _ (s1.trans s2) (.inr (.inl ⟨hk, fun z => Bool.noConfusion (hb.mpr z), rfl⟩))⟩
      | true =>
        refine iteF ?_
        exact q _ _ (s1.trans s2) (.inr (.inr ⟨hk, hb.mp rfl, rfl⟩))
    · rw [decide_eq_false hk]
      refine iteT ?_
      exact ⟨_, rfl, q _ _ (fun _ _ e => e) (.inl ⟨hk, rfl⟩)⟩
end
end Prog
set_option Elab.async false
set_option linter.all false
set_option maxRecDepth 100000
set_option maxHeartbeats 2000000
namespace Prog
open PySem PySem.Spec PyProof.Rows L2
open PySem.W (Codec)
/-! ### the whole edge -/
structure EA (E : List My.Pi) : Prop where
  edge : ∃ (D : My.Pt → Prop) (t m : Int), My.Edge D E t m
  len : E.length ≤ 514
  bnd : ∀ z, z ∈ E → Bnd z
theorem OA.bnds {ps os : List My.Pi} (h : OA ps os) : (My.edgeI os).length ≤ 514 ∧ ∀ z, z ∈ My.edgeI os → Bnd z := by
  obtain ⟨a, s, z, ea, ez⟩ := h.out.ends
  rw [My.edgeI_eq ea ez]
  have ba := h.bnd a (by rw [ea]; exact List.mem_cons_self ..)
  have bz := h.bnd z (List.mem_of_getLast? ez)
  refine ⟨?_, fun y hy => ?_⟩
  · have := h.len
    rw [List.length_cons, List.length_append, List.length_singleton]
    omega
  · rcases List.mem_cons.mp hy with rfl | hy
    · exact ⟨Int.le_refl _, (by show (0 : Int) ≤ 1000; decide), ba.2.2.1, ba.2.2.2⟩
    · rcases List.mem_append.mp hy with hy | hy
      · exact h.bnd y hy
      · have e := List.mem_singleton.mp hy
        subst e
        exact ⟨bz.1, bz.2.1, Int.le_refl _, (by show (0 : Int) ≤ 1000; decide)⟩
theorem OA.ea {ps os : List My.Pi} (h : OA ps os) : EA (My.edgeI os) := by
  obtain ⟨a, s, z, ea, ez⟩ := h.out.ends
  exact ⟨⟨_, _, _, My.edge_of h.nn h.g1 h.g2 h.out ea ez⟩, h.bnds.1, h.bnds.2⟩
def spEdge : Sp := fun vs H Q _ => ∃ (o : Addr) (us : List Addr) (os : List My.Pi), vs = [.ref o] ∧ H o = some (.lst (us.map V.ref)) ∧ PP H us os ∧ os ≠ [] ∧ os.length ≤ 512 ∧
  ∀ (H' : Hp) (e : Addr) (es : List Addr), Same H H' → H' e = some (.lst (es.map V.ref)) → PP H' es (My.edgeI os) → Q (.ref e) H'
section
variable {P : Program} {w : World} {K : PySem.W.Frag} {mg : Str → Option Value} {base : Heap}
theorem ends_of {os : List My.Pi} (hne : os ≠ []) : ∃ a s z, os = a :: s ∧ os.getLast? = some z := by
  match os, hne with
  | a :: s, _ => exact ⟨a, s, (a :: s).getLast (by simp), rfl, List.getLast?_eq_getLast (by simp)⟩
  | [], h => exact absurd rfl h
theorem ok_edge_of {f : Addr} {fd : FuncData} (F : Fun K "edge_of" "edge_of" s_edge_of f fd) : FnOk P w K mg base CX0 1 f fd ["outline"] spEdge := by
  refine F.ok sc_edge_of (fun vs H Q E h => ?_) (fun cdv A outer s H vs Q E hr h => ?_)
  · obtain ⟨o, us, os, rfl, _⟩ := h
    rfl
  · obtain ⟨o, us, os, rfl, ho, hp, hne, hn, k⟩ := h
    refine ⟨_, pss_one (ps_ret (pe_op op_cat (pe_op op_cat (pe_lst (pa_cons (pe_tup (pa_cons pe_int (pa_cons (pe_ix ix_tup (pe_ix ix_list (pv 0) pe_int (fun _ _ => rfl)) pe_int (fun _ _ => rfl)) pa_nil))) pa_nil)) (pv 0))
      (pe_lst (pa_cons (pe_tup (pa_cons (pe_ix ix_tup (pe_ix ix_list (pv 0) (pe_un un_neg pe_int) (fun _ _ => rfl)) pe_int (fun _ _ => rfl)) (pa_cons pe_int pa_nil))) pa_nil)))), ?_⟩
    have hpos : 0 < os.length := List.length_pos_iff.mpr hne
    have hul := hp.length
    obtain ⟨c, cs, z, ec, ez⟩ := ends_of hne
    have hzl : os[os.length - 1]? = some z := by rw [← ez, List.getLast?_eq_getElem?]
    obtain ⟨tz, htz, hpz⟩ := hp.get hzl
    have hc0 : os[0]? = some c := by rw [ec]; rfl
    obtain ⟨tc, htc, hpc⟩ := hp.get hc0
    refine ⟨_, rfl, _, _, _, _, rfl, rfl, SqL.of ho, at_of (j := 0) rfl (map_at htc), _, _, _, _, rfl, rfl, SqT.of hpc, at1 _ _, (by show 2 ≤ sizeLine; decide), fun t1 ht1 => ?_⟩
    refine ⟨(by show 1 ≤ sizeLine; decide), fun l1 hl1 => ?_⟩
    generalize hH1 : L2.upd H t1 (.tup [V.int 0, V.int c.2]) = H1 at *
    have s1 : Same H H1 := by rw [← hH1]; exact Same.upd ht1
    have a1 : H1 t1 = some (.tup [V.int 0, V.int c.2]) := by rw [← hH1]; exact upd_same
    generalize hH2 : L2.upd H1 l1 (.lst [V.ref t1]) = H2 at *
    have s2 : Same H1 H2 := by rw [← hH2]; exact Same.upd hl1
    have a2 : H2 l1 = some (.lst [V.ref t1]) := by rw [← hH2]; exact upd_same
    refine ⟨_, rfl, l1, o, _, _, rfl, rfl, a2, (s1.trans s2) _ _ ho, ?_, fun c1 hc1 => ?_⟩
    · rw [List.length_map, hul, sizeLine_eq, List.length_singleton]
      omega
    · generalize hH3 : L2.upd H2 c1 (.lst ([V.ref t1] ++ us.map V.ref)) = H3 at *
      have s3 : Same H2 H3 := by rw [← hH3]; exact Same.upd hc1
      have a3 : H3 c1 = some (.lst ([V.ref t1] ++ us.map V.ref)) := by rw [← hH3]; exact upd_same
      have s03 := (s1.trans s2).trans s3
      refine ⟨_, rfl, _, rfl, _, _, _, _, rfl, rfl, SqL.of (s03 _ _ ho), at_neg1 hul hpos htz, _, _, _, _, rfl, rfl, SqT.of (s03 _ _ hpz), at0 _ _, (by show 2 ≤ sizeLine; decide), fun t2 ht2 => ?_⟩
      refine ⟨(by show 1 ≤ sizeLine; decide), fun l2 hl2 => ?_⟩
      generalize hH4 : L2.upd H3 t2 (.tup [V.int z.1, V.int 0]) = H4 at *
      have s4 : Same H3 H4 := by rw [← hH4]; exact Same.upd ht2
      have a4 : H4 t2 = some (.tup [V.int z.1, V.int 0]) := by rw [← hH4]; exact upd_same
      generalize hH5 : L2.upd H4 l2 (.lst [V.ref t2]) = H5 at *
      have s5 : Same H4 H5 := by rw [← hH5]; exact Same.upd hl2
      have a5 : H5 l2 = some (.lst [V.ref t2]) := by rw [← hH5]; exact upd_same
      refine ⟨c1, l2, _, _, rfl, rfl, (s4.trans s5) _ _ a3, a5, ?_, fun c2 hc2 => ?_⟩
      · rw [List.length_append, List.length_map, hul, sizeLine_eq, List.length_singleton, List.length_singleton]
        omega
      · have s6 : Same H5 (L2.upd H5 c2 (.lst ([V.ref t1] ++ us.map V.ref ++ [V.ref t2]))) := Same.upd hc2
        have s26 := ((s2.trans s3).trans (s4.trans s5)).trans s6
        refine k _ c2 (t1 :: (us ++ [t2])) (s1.trans s26) ?_ ?_
        · rw [upd_same]
          simp
        · rw [My.edgeI_eq ec ez]
          exact .cons (s26 _ _ a1) (PP.append (hp.same (s1.trans s26)) (PP.one ((s5.trans s6) _ _ a4)))
end
end Prog
set_option Elab.async false
set_option linter.all false
set_option maxRecDepth 100000
set_option maxHeartbeats 2000000
namespace Prog
open PySem PySem.Spec PyProof.Rows L2
open PySem.W (Codec)
/-! ### lines as tuples of three -/
abbrev Ln := Int × Int × Int
def LAt (H : Hp) (t : Addr) (l : Ln) : Prop := H t = some (.tup [.int l.1, .int l.2.1, .int l.2.2])
inductive LL (H : Hp) : List Addr → List Ln → Prop
  | nil : LL H [] []
  | cons {t : Addr} {v : Ln} {ts : List Addr} {vs : List Ln} : LAt H t v → LL H ts vs → LL H (t :: ts) (v :: vs)
theorem LL.mono {H H' : Hp} (e : ∀ t v, LAt H t v → LAt H' t v) : ∀ {ts : List Addr} {vs : List Ln}, LL H ts vs → LL H' ts vs
  | _, _, .nil => .nil
  | _, _, .cons h t => .cons (e _ _ h) (LL.mono e t)
theorem LL.same {H H' : Hp} (e : Same H H') {ts : List Addr} {vs : List Ln} (h : LL H ts vs) : LL H' ts vs := h.mono fun t _ q => e t _ q
theorem LAt.upd {H : Hp} {o : Addr} {xs ys : List V} (ho : H o = some (.lst xs)) {t : Addr} {v : Ln} (h : LAt H t v) : LAt (L2.upd H o (.lst ys)) t v := by
  unfold LAt
  rw [upd_ne (ne_of h ho (by intro z; cases z))]
  exact h
theorem LL.upd {H : Hp} {o : Addr} {xs ys : List V} (ho : H o = some (.lst xs)) {ts : List Addr} {vs : List Ln} (h : LL H ts vs) : LL (L2.upd H o (.lst ys)) ts vs := h.mono fun _ _ q => q.upd ho
theorem LL.length {H : Hp} : ∀ {ts : List Addr} {vs : List Ln}, LL H ts vs → ts.length = vs.length
  | _, _, .nil => rfl
  | _, _, .cons _ t => by rw [List.length_cons, List.length_cons, LL.length t]
theorem LL.get {H : Hp} : ∀ {ts : List Addr} {vs : List Ln} {i : Nat} {v : Ln}, LL H ts vs → vs[i]? = some v → ∃ t, ts[i]? = some t ∧ LAt H t v
  | _, _, _, _, .nil, e => by simp at e
  | _, _, 0, _, .cons h _, e => by
    simp at e
    subst e
    exact ⟨_, rfl, h⟩
  | _, _, i + 1, _, .cons _ t, e => by
    obtain ⟨u, h1, h2⟩ := LL.get (i := i) t (by simpa using e)
    exact ⟨u, by simpa using h1, h2⟩
theorem LL.get' {H : Hp} : ∀ {ts : List Addr} {vs : List Ln} {i : Nat} {t : Addr}, LL H ts vs → ts[i]? = some t → ∃ v, vs[i]? = some v ∧ LAt H t v
  | _, _, _, _, .nil, e => by simp at e
  | _, _, 0, _, .cons h _, e => by
    simp at e
    subst e
    exact ⟨_, rfl, h⟩
  | _, _, i + 1, _, .cons _ t, e => by
    obtain ⟨u, h1, h2⟩ := LL.get' (i := i) t (by simpa using e)
    exact ⟨u, by simpa using h1, h2⟩
theorem LL.append {H : Hp} : ∀ {ts us : List Addr} {vs ws : List Ln}, LL H ts vs → LL H us ws → LL H (ts ++ us) (vs ++ ws)
  | _, _, _, _, .nil, s => s
  | _, _, _, _, .cons r t, s => .cons r (LL.append t s)
theorem LL.one {H : Hp} {t : Addr} {v : Ln} (h : LAt H t v) : LL H [t] [v] := .cons h .nil
/-! ### lines of an edge -/
def lineI (p q : My.Pi) : Ln := (p.2 - q.2, q.1 - p.1, My.reachI p q)
def linesI : List My.Pi → List Ln
  | a :: b :: r => lineI a b :: linesI (b :: r)
  | _ => []
theorem linesI_len : ∀ (L : List My.Pi), (linesI L).length = L.length - 1
  | [] => rfl
  | [_] => rfl
  | a :: b :: r => by
    show (linesI (b :: r)).length + 1 = _
    rw [linesI_len (b :: r)]
    simp
theorem linesI_at : ∀ {L : List My.Pi} {i : Nat} {p q : My.Pi}, L[i]? = some p → L[i + 1]? = some q → (linesI L)[i]? = some (lineI p q)
  | [], _, _, _, e, _ => by simp at e
  | [a], 0, p, q, _, h2 => by simp at h2
  | [a], i + 1, p, q, h1, _ => by simp at h1
  | a :: b :: r, 0, p, q, e1, e2 => by
    have e1 := Option.some.inj e1
    have e2 := Option.some.inj e2
    subst e1 e2
    rfl
  | a :: b :: r, i + 1, p, q, e1, e2 => linesI_at (L := b :: r) (i := i) e1 e2
theorem linesI_mem {L : List My.Pi} {l : Ln} (h : l ∈ linesI L) : ∃ p q, My.Next L p q ∧ l = lineI p q := by
  obtain ⟨i, hi⟩ := List.mem_iff_getElem?.mp h
  obtain ⟨h2, _⟩ := List.getElem?_eq_some_iff.mp hi
  rw [linesI_len] at h2
  have g1 : L[i]? = some L[i] := List.getElem?_eq_getElem (by omega)
  have g2 : L[i + 1]? = some L[i + 1] := List.getElem?_eq_getElem (by omega)
  rw [linesI_at g1 g2] at hi
  exact ⟨_, _, ⟨i, g1, g2⟩, (Option.some.inj hi).symm⟩
def Within (e : My.Pi) (ls : List Ln) : Prop := ∀ l, l ∈ ls → l.1 * e.1 + l.2.1 * e.2 ≤ l.2.2
theorem within_bnd {e : My.Pi} {L : List My.Pi} : Within e (linesI L) ↔ My.BndI e L := by
  constructor
  · rintro h p q ⟨i, g1, g2⟩
    exact h _ (List.mem_of_getElem? (linesI_at g1 g2))
  · intro h l hl
    obtain ⟨p, q, n, rfl⟩ := linesI_mem hl
    exact h p q n
def LnB (l : Ln) : Prop := 0 ≤ l.1 ∧ l.1 ≤ 1000000 ∧ 0 ≤ l.2.1 ∧ l.2.1 ≤ 1000000
def Falls (L : List My.Pi) : Prop := ∀ p q, My.Next L p q → p.1 ≤ q.1 ∧ q.2 ≤ p.2
theorem lnb_of {L : List My.Pi} (h : Falls L) (b : ∀ z, z ∈ L → BndM z) : ∀ l, l ∈ linesI L → LnB l := fun l hl => by
  obtain ⟨p, q, n, rfl⟩ := linesI_mem hl
  obtain ⟨h1, h2⟩ := h p q n
  obtain ⟨p1, p2, p3, p4⟩ := b p n.mem1
  obtain ⟨q1, q2, q3, q4⟩ := b q n.mem2
  unfold LnB lineI
  dsimp only
  omega
theorem scl_bnd {u v : Int} {z : My.Pi} (u0 : 0 ≤ u) (u1 : u ≤ 1000) (v0 : 0 ≤ v) (v1 : v ≤ 1000) (h : Bnd z) : BndM (My.scl u v z) := by
  obtain ⟨h1, h2, h3, h4⟩ := h
  refine ⟨Int.mul_nonneg h1 u0, ?_, Int.mul_nonneg h3 v0, ?_⟩
  · have : z.1 * u ≤ 1000 * 1000 := Int.mul_le_mul h2 u1 u0 (by omega)
    exact Int.le_trans this (by decide)
  · have : z.2 * v ≤ 1000 * 1000 := Int.mul_le_mul h4 v1 v0 (by omega)
    exact Int.le_trans this (by decide)
theorem scl_falls {D : My.Pt → Prop} {E : List My.Pi} {t m u v : Int} (h : My.Edge D E t m) (u0 : 0 ≤ u) (v0 : 0 ≤ v) : Falls (E.map (My.scl u v)) := fun p q n => by
  obtain ⟨p', q', ⟨i, g1, g2⟩, rfl, rfl⟩ := My.next_map.mp n
  obtain ⟨k1, k2, _⟩ := My.ec_next h.ec g1 g2
  exact ⟨Int.mul_le_mul_of_nonneg_right k1 u0, Int.mul_le_mul_of_nonneg_right k2 v0⟩
/-! ### the promises -/
def spWait : Sp := fun vs H Q _ => ∃ u l : Int, vs = [.int u, .int l] ∧ ∀ b : Bool, (b = true ↔ My.Pat u l) → Q (.bl b) H
def spDrawn : Sp := fun vs H Q _ => ∃ (e : Addr) (es : List Addr) (E : List My.Pi) (u v : Int), vs = [.ref e, .int u, .int v] ∧ H e = some (.lst (es.map V.ref)) ∧ PP H es E ∧ E.length ≤ 514 ∧ (∀ z, z ∈ E → Bnd z) ∧
  ∀ (H' : Hp) (l : Addr) (ts : List Addr), Same H H' → H' l = some (.lst (ts.map V.ref)) → PP H' ts (E.map (My.scl u v)) → Q (.ref l) H'
def spLines : Sp := fun vs H Q _ => ∃ (e : Addr) (es : List Addr) (L : List My.Pi), vs = [.ref e] ∧ H e = some (.lst (es.map V.ref)) ∧ PP H es L ∧ L.length ≤ 514 ∧ 1 ≤ L.length ∧ (∀ z, z ∈ L → BndM z) ∧
  ∀ (H' : Hp) (l : Addr) (ts : List Addr), Same H H' → H' l = some (.lst (ts.map V.ref)) → LL H' ts (linesI L) → Q (.ref l) H'
def spBounded : Sp := fun vs H Q _ => ∃ (t l : Addr) (ts : List Addr) (e : My.Pi) (ls : List Ln), vs = [.ref t, .ref l] ∧ PtAt H t e ∧ H l = some (.lst (ts.map V.ref)) ∧ LL H ts ls ∧ (∀ x, x ∈ ls → LnB x) ∧
  ∀ b : Bool, (b = true ↔ Within e ls) → Q (.bl b) H
def crossL (s h : Ln) : Ln := (s.2.2 * h.2.1 - h.2.2 * s.2.1, s.1 * h.2.2 - h.1 * s.2.2, s.1 * h.2.1 - h.1 * s.2.1)
def spCross : Sp := fun vs H Q _ => ∃ (t1 t2 : Addr) (s h : Ln), vs = [.ref t1, .ref t2] ∧ LAt H t1 s ∧ LAt H t2 h ∧ LnB s ∧ LnB h ∧ ∀ (H' : Hp) (p : Addr), Same H H' → LAt H' p (crossL s h) → Q (.ref p) H'
def spMeet : Sp := fun vs H Q _ => ∃ (h w : Addr) (hs ws : List Addr) (E : List My.Pi) (D : My.Pt → Prop) (t m a b c d : Int) (x y : My.Pt), vs = [.ref h, .ref w] ∧ H h = some (.lst (hs.map V.ref)) ∧ H w = some (.lst (ws.map V.ref)) ∧
  PP H hs (E.map (My.scl a d)) ∧ PP H ws (E.map (My.scl b c)) ∧ My.Edge D E t m ∧ My.Pat a b ∧ My.Pat c d ∧ My.Offers D a b c d x y ∧ E.length ≤ 514 ∧ (∀ z, z ∈ E → Bnd z) ∧
  ∀ (H' : Hp) (p : Addr) (z : Ln), Same H H' → LAt H' p z → 0 ≤ z.1 → 0 ≤ z.2.1 → 0 < z.2.2 → z.2.2 ≤ 1000000000000 → My.offersI a b c d z = My.toInts (Ql88.pair x ++ Ql88.pair y) → Q (.ref p) H'
def spTwo : Sp := fun vs H Q _ => ∃ (e : Addr) (es : List Addr) (E : List My.Pi) (D : My.Pt → Prop) (t m a b c d : Int) (x y : My.Pt), vs = [.ref e, .int a, .int b, .int c, .int d] ∧ H e = some (.lst (es.map V.ref)) ∧ PP H es E ∧ My.Edge D E t m ∧ My.Pat a b ∧ My.Pat c d ∧
  My.Offers D a b c d x y ∧ E.length ≤ 514 ∧ (∀ z, z ∈ E → Bnd z) ∧ ∀ (H' : Hp) (p : Addr), Same H H' → H' p = some (.lst ((My.toInts (Ql88.pair x ++ Ql88.pair y)).map V.int)) → Q (.ref p) H'
section
variable {P : Program} {w : World} {K : PySem.W.Frag} {mg : Str → Option Value} {base : Heap}
/-! ### is_left_by_waiting -/
theorem ok_is_left_by_waiting {f : Addr} {fd : FuncData} {tk : Tok} (F : Fun K "is_left_by_waiting" "is_left_by_waiting" s_is_left_by_waiting f fd) (mC : mg "MOST_LOWER" = some (.int 1000 tk)) : FnOk P w K mg base CX0 1 f fd ["upper", "lower"] spWait := by
  refine F.ok sc_is_left_by_waiting (fun vs H Q E h => ?_) (fun cdv A outer s H vs Q E hr h => ?_)
  · obtain ⟨u, l, rfl, _⟩ := h
    rfl
  · obtain ⟨u, l, rfl, q⟩ := h
    refine ⟨_, pss_one (ps_ret (pe_and (pe_cmp (pc_le pe_int (pv 0))) (pe_and (pe_cmp (pc_lt (pv 0) (pv 1))) (pe_one (pe_cmp (pc_le (pv 1) (pe_glob (v := .int 1000) rfl mC ⟨_, rfl⟩))))))), ?_⟩
    refine ⟨_, rfl, _, _, rfl, rfl, _, rfl, ?_⟩
    by_cases h1 : 1 ≤ u
    · refine iteY (by simpa using h1) ?_
      refine ⟨_, rfl, _, rfl, _, _, rfl, rfl, _, rfl, ?_⟩
      by_cases h2 : u < l
      · refine iteY (by simpa using h2) ?_
        refine ⟨_, rfl, _, _, rfl, rfl, ?_⟩
        refine q _ ?_
        unfold My.Pat
        rw [decide_eq_true_iff]
        omega
      · refine iteN (by simpa using h2) ?_
        refine q false ?_
        unfold My.Pat
        simp
        omega
    · refine iteN (by simpa using h1) ?_
      refine q false ?_
      unfold My.Pat
      simp
      omega
/-! ### drawn_larger -/
theorem ok_drawn_larger {f : Addr} {fd : FuncData} (F : Fun K "drawn_larger" "drawn_larger" s_drawn_larger f fd) : FnOk P w K mg base CX0 1 f fd ["edge", "first_times", "second_times"] spDrawn := by
  refine F.ok sc_drawn_larger (fun vs H Q E h => ?_) (fun cdv A outer s H vs Q E hr h => ?_)
  · obtain ⟨e, es, E, u, v, rfl, _⟩ := h
    rfl
  · obtain ⟨e, es, E, u, v, rfl, he, hp, hn, hb, q⟩ := h
    refine ⟨_, pss_one (ps_ret (pe_lc (own := [("bend", 3)]) rfl sc_drawn_larger.nd (pi_list (pv 0)) (blkOk_by (by change blkC ["edge", "first_times", "second_times", "bend"] (defScope s_drawn_larger) _ _ = true; decide +kernel)) (fun _ _ _ _ _ => pg_name (i := 3) sc_drawn_larger.nd rfl (Or.inl rfl)) (fun _ _ _ _ _ => pts_nil)
      (fun _ _ _ _ _ => pe_tup (pa_cons (pe_op op_mul (pe_ix (r := rIxT K) ix_tup (pv 3) pe_int (fun _ _ => rfl)) (pv 1)) (pa_cons (pe_op op_mul (pe_ix (r := rIxT K) ix_tup (pv 3) pe_int (fun _ _ => rfl)) (pv 2)) pa_nil))))), ?_⟩
    refine ⟨_, rfl, e, rfl, ⟨_, SqL.of he⟩, fun D hD => lc_list (K := K) (a := e) (xs := es.map V.ref) (fun i H' => ∃ ts : List Addr, Same H H' ∧ H' D = some (.lst (ts.map V.ref)) ∧ PP H' ts ((E.take i).map (My.scl u v))) ⟨[], Same.upd hD, upd_same, .nil⟩ (fun i H' _ ⟨_, z, _⟩ => SqL.of (z _ _ he)) ?_ ?_⟩
    · rintro i x H' hx ⟨ts, sm, hD', hp'⟩
      obtain ⟨t, ht, rfl⟩ := of_map_at hx
      obtain ⟨z, hz, hpt⟩ := hp.get' ht
      obtain ⟨z1, z2, z3, z4⟩ := hb z (List.mem_of_getElem? hz)
      have hlt : ts.length ≤ 514 := by
        rw [hp'.length, List.length_map, List.length_take]
        have := Nat.min_le_right i E.length
        omega
      refine ⟨rfl, yes_turn (iteT ?_)⟩
      refine ⟨_, rfl, _, _, _, _, rfl, rfl, SqT.of (sm _ _ hpt), at0 _ _, _, rfl, _, _, rfl, rfl, .inl ⟨by omega, by omega⟩, ?_⟩
      refine ⟨_, rfl, _, _, _, _, rfl, rfl, SqT.of (sm _ _ hpt), at1 _ _, _, rfl, _, _, rfl, rfl, .inl ⟨by omega, by omega⟩, (by show 2 ≤ sizeLine; decide), fun p hp2 => ?_⟩
      have nDp : D ≠ p := ne_of_none hD' hp2
      refine ⟨ts.map V.ref, by rw [upd_ne nDp]; exact hD', by rw [List.length_map, sizeLine_eq]; omega, ts ++ [p], fun b o e => ?_, ?_, ?_⟩
      · have e1 := sm b o e
        rw [upd_ne (ne_of_none e hD), upd_ne (ne_of_none e1 hp2)]
        exact e1
      · rw [upd_same, List.map_append]
        rfl
      · rw [take_snoc hz, List.map_append]
        have hD2 : (L2.upd H' p (.tup [V.int (z.1 * u), V.int (z.2 * v)])) D = some (.lst (ts.map V.ref)) := by rw [upd_ne nDp]; exact hD'
        refine PP.upd hD2 (PP.append (hp'.same (Same.upd hp2)) (PP.one ?_))
        exact upd_same
    · rintro H' ⟨ts, sm, hD', hp'⟩
      rw [List.length_map, hp.length, List.take_length] at hp'
      exact q H' D ts sm hD' hp'
/-! ### lines_of -/
theorem ok_lines_of {f fL : Addr} {fd fdL : FuncData} (F : Fun K "lines_of" "lines_of" s_lines_of f fd)
    (GL : FnOk P w K mg base CX0 1 fL fdL ["left", "right"] spLine) (mN : mg "line_through" = some (.ref fL)) (kL : PySem.W.keepIn K (.ref fL) = true) (bL : Binds K fdL ["left", "right"] [])
    (mR : mg "range" = none) (mL : mg "len" = none) : FnOk P w K mg base CX0 2 f fd ["edge"] spLines := by
  refine F.ok sc_lines_of (fun vs H Q E h => ?_) (fun cdv A outer s H vs Q E hr h => ?_)
  · obtain ⟨e, es, L, rfl, _⟩ := h
    rfl
  · obtain ⟨e, es, L, rfl, he, hp, hn, hn1, hb, q⟩ := h
    refine ⟨_, pss_one (ps_ret (pe_lc (own := [("place", 1)]) rfl sc_lines_of.nd (pi_range2 rfl mR (pa_cons pe_int (pa_cons (pe_callB call_len_seq (by rfl) mL PySem.boot_len (pa_cons (pv 0) pa_nil)) pa_nil))) (blkOk_by (by change blkC ["edge", "place"] (defScope s_lines_of) _ _ = true; decide +kernel)) (fun _ _ _ _ _ => pg_name (i := 1) sc_lines_of.nd rfl (Or.inl rfl)) (fun _ _ _ _ _ => pts_nil)
      (fun _ _ _ _ _ => pe_call GL hr rfl mN kL bL .nil pass0 (pa_cons (pe_ix (r := rIxL K) ix_list (pv 0) (pe_op op_sub (pv 1) pe_int) (fun _ _ => rfl)) (pa_cons (pe_ix (r := rIxL K) ix_list (pv 0) (pv 1) (fun _ _ => rfl)) pa_nil))))), ?_⟩
    have hul := hp.length
    refine ⟨_, rfl, e, _, rfl, .inl (SqL.of he), _, _, rfl, ⟨by decide, by decide, by rw [List.length_map]; omega, by rw [List.length_map]; omega⟩, fun D hD => lc_range (lo := 1) (n := _) (fun i H' => ∃ ts : List Addr, Same H H' ∧ H' D = some (.lst (ts.map V.ref)) ∧ LL H' ts ((linesI L).take i)) ⟨[], Same.upd hD, upd_same, .nil⟩ ?_ ?_⟩
    · rintro i H' hi ⟨ts, sm, hD', hp'⟩
      rw [List.length_map, hul] at hi
      have i1 : i < L.length := by omega
      have i2 : i + 1 < L.length := by omega
      have ga : L[i]? = some L[i] := List.getElem?_eq_getElem i1
      have gb : L[i + 1]? = some L[i + 1] := List.getElem?_eq_getElem i2
      have gl := linesI_at ga gb
      have na := hb _ (List.mem_of_getElem? ga)
      have nb := hb _ (List.mem_of_getElem? gb)
      obtain ⟨ta, hta, hpa⟩ := hp.get ga
      obtain ⟨tb, htb, hpb⟩ := hp.get gb
      generalize L[i] = a at *
      generalize L[i + 1] = b at *
      have hlt : ts.length ≤ 514 := by
        rw [hp'.length, List.length_take, linesI_len]
        have := Nat.min_le_left i (L.length - 1)
        omega
      refine ⟨rfl, yes_turn (iteT ?_)⟩
      refine ⟨_, rfl, _, rfl, _, _, rfl, rfl, _, _, _, _, rfl, rfl, SqL.of (sm _ _ he), at_of (j := i) (by omega) (map_at hta), _, rfl, _, rfl, _, _, _, _, rfl, rfl, SqL.of (sm _ _ he), at_of (j := i + 1) (by omega) (map_at htb), ?_⟩
      refine ⟨ta, tb, a, b, rfl, sm _ _ hpa, sm _ _ hpb, na, nb, fun H2 p s2 hp2 => ?_⟩
      refine ⟨ts.map V.ref, s2 _ _ hD', by rw [List.length_map, sizeLine_eq]; omega, ts ++ [p], fun b o e => ?_, ?_, ?_⟩
      · rw [upd_ne (ne_of_none e hD)]
        exact s2 _ _ (sm b o e)
      · rw [upd_same, List.map_append]
        rfl
      · rw [take_snoc gl]
        exact LL.upd (s2 _ _ hD') (LL.append (hp'.same s2) (LL.one hp2))
    · rintro H' ⟨ts, sm, hD', hp'⟩
      rw [List.take_of_length_le (by rw [linesI_len, List.length_map, hul]; omega)] at hp'
      exact q H' D ts sm hD' hp'
/-! ### is_bounded -/
theorem ok_is_bounded {f : Addr} {fd : FuncData} (F : Fun K "is_bounded" "is_bounded" s_is_bounded f fd) : FnOk P w K mg base CX0 1 f fd ["bend", "lines"] spBounded := by
  refine F.ok sc_is_bounded (fun vs H Q E h => ?_) (fun cdv A outer s H vs Q E hr h => ?_)
  · obtain ⟨t, l, ts, e, ls, rfl, _⟩ := h
    rfl
  · obtain ⟨t, l, ts, e, ls, rfl, ht, hl, hp, hb, q⟩ := h
    refine ⟨_, pss_cons (ps_for PassesOwn.never rfl (pi_list (pv 1)) (pg_name (i := 2) sc_is_bounded.nd rfl (Or.inl rfl))
        (pss_one (ps_if (pt_cmp (pc_gt (pe_op op_add (pe_op op_mul (pe_ix ix_tup (pv 2) pe_int (fun _ _ => rfl)) (pe_ix ix_tup (pv 0) pe_int (fun _ _ => rfl))) (pe_op op_mul (pe_ix ix_tup (pv 2) pe_int (fun _ _ => rfl)) (pe_ix ix_tup (pv 0) pe_int (fun _ _ => rfl)))) (pe_ix ix_tup (pv 2) pe_int (fun _ _ => rfl))))
          (pss_one (ps_ret pe_bl)) pss_nil)))
      (pss_one (ps_ret pe_bl)), ?_⟩
    refine ⟨_, rfl, l, rfl, ⟨_, SqL.of hl⟩, for_list (K := K) (a := l) (xs := ts.map V.ref) (fun i σ H' => ∃ v : Option V, σ = [some (.ref t), some (.ref l), v] ∧ H' = H ∧ Within e (ls.take i)) ⟨none, rfl, rfl, fun x hx => nomatch hx⟩ (fun i σ H' _ ⟨_, _, z, _⟩ => by rw [z]; exact SqL.of hl) ?_ ?_⟩
    · rintro i x σ H' hx ⟨v, rfl, rfl, hw⟩
      obtain ⟨t', ht', rfl⟩ := of_map_at hx
      obtain ⟨ln, hln, hlt⟩ := hp.get' ht'
      obtain ⟨z1, z2, z3, z4⟩ := hb ln (List.mem_of_getElem? hln)
      refine ⟨_, rfl, _, _, _, _, rfl, rfl, SqT.of hlt, rfl, _, rfl, _, _, _, _, rfl, rfl, SqT.of ht, at0 _ _, _, _, rfl, rfl, .inl ⟨by omega, by omega⟩, ?_⟩
      refine ⟨_, rfl, _, _, _, _, rfl, rfl, SqT.of hlt, rfl, _, rfl, _, _, _, _, rfl, rfl, SqT.of ht, at1 _ _, _, _, rfl, rfl, .inl ⟨by omega, by omega⟩, _, _, rfl, rfl, ?_⟩
      refine ⟨_, rfl, _, _, _, _, rfl, rfl, SqT.of hlt, rfl, _, _, rfl, rfl, _, rfl, ?_⟩
      refine ite2 (fun e' => ?_) (fun e' => ?_)
      · have e0 := of_decide_eq_true e'
        refine q false ⟨fun z => Bool.noConfusion z, fun z => ?_⟩
        have := z ln (List.mem_of_getElem? hln)
        omega
      · have e0 := fun z => e' (decide_eq_true z)
        refine ⟨_, rfl, rfl, fun x hx => ?_⟩
        rw [take_snoc hln] at hx
        rcases List.mem_append.mp hx with hx | hx
        · exact hw x hx
        · have e1 := List.mem_singleton.mp hx
          subst e1
          exact Int.not_lt.mp e0
    · rintro σ H' ⟨v, rfl, rfl, hw⟩
      rw [List.length_map, hp.length, List.take_length] at hw
      exact q true ⟨fun _ => hw, fun _ => rfl⟩
/-! ### crossing_of -/
theorem ok_crossing_of {f : Addr} {fd : FuncData} (F : Fun K "crossing_of" "crossing_of" s_crossing_of f fd) : FnOk P w K mg base CX0 1 f fd ["steep", "shallow"] spCross := by
  refine F.ok sc_crossing_of (fun vs H Q E h => ?_) (fun cdv A outer s H vs Q E hr h => ?_)
  · obtain ⟨t1, t2, s, h, rfl, _⟩ := h
    rfl
  · obtain ⟨t1, t2, s, h, rfl, h1, h2, ⟨a1, a2, a3, a4⟩, ⟨b1, b2, b3, b4⟩, k⟩ := h
    refine ⟨_, pss_cons (ps_set (i := 2) sc_crossing_of.nd rfl (Or.inl rfl) (pe_op op_sub (pe_op op_mul (pe_ix ix_tup (pv 0) pe_int (fun _ _ => rfl)) (pe_ix ix_tup (pv 1) pe_int (fun _ _ => rfl))) (pe_op op_mul (pe_ix ix_tup (pv 1) pe_int (fun _ _ => rfl)) (pe_ix ix_tup (pv 0) pe_int (fun _ _ => rfl)))))
      (pss_cons (ps_set (i := 3) sc_crossing_of.nd rfl (Or.inl rfl) (pe_op op_sub (pe_op op_mul (pe_ix ix_tup (pv 0) pe_int (fun _ _ => rfl)) (pe_ix ix_tup (pv 1) pe_int (fun _ _ => rfl))) (pe_op op_mul (pe_ix ix_tup (pv 1) pe_int (fun _ _ => rfl)) (pe_ix ix_tup (pv 0) pe_int (fun _ _ => rfl)))))
      (pss_one (ps_ret (pe_tup (pa_cons (pv 2) (pa_cons (pv 3) (pa_cons (pe_op op_sub (pe_op op_mul (pe_ix ix_tup (pv 0) pe_int (fun _ _ => rfl)) (pe_ix ix_tup (pv 1) pe_int (fun _ _ => rfl))) (pe_op op_mul (pe_ix ix_tup (pv 1) pe_int (fun _ _ => rfl)) (pe_ix ix_tup (pv 0) pe_int (fun _ _ => rfl)))) pa_nil))))))), ?_⟩
    refine ⟨_, rfl, _, _, _, _, rfl, rfl, SqT.of h1, rfl, _, rfl, _, _, _, _, rfl, rfl, SqT.of h2, rfl, _, _, rfl, rfl, .inr ⟨by omega, by omega⟩, ?_⟩
    refine ⟨_, rfl, _, _, _, _, rfl, rfl, SqT.of h2, rfl, _, rfl, _, _, _, _, rfl, rfl, SqT.of h1, rfl, _, _, rfl, rfl, .inr ⟨by omega, by omega⟩, _, _, rfl, rfl, ?_⟩
    refine ⟨_, rfl, _, _, _, _, rfl, rfl, SqT.of h1, rfl, _, rfl, _, _, _, _, rfl, rfl, SqT.of h2, rfl, _, _, rfl, rfl, .inl ⟨by omega, by omega⟩, ?_⟩
    refine ⟨_, rfl, _, _, _, _, rfl, rfl, SqT.of h2, rfl, _, rfl, _, _, _, _, rfl, rfl, SqT.of h1, rfl, _, _, rfl, rfl, .inl ⟨by omega, by omega⟩, _, _, rfl, rfl, ?_⟩
    refine ⟨_, rfl, _, rfl, ?_⟩
    refine ⟨_, rfl, _, _, _, _, rfl, rfl, SqT.of h1, rfl, _, rfl, _, _, _, _, rfl, rfl, SqT.of h2, rfl, _, _, rfl, rfl, .inl ⟨by omega, by omega⟩, ?_⟩
    refine ⟨_, rfl, _, _, _, _, rfl, rfl, SqT.of h2, rfl, _, rfl, _, _, _, _, rfl, rfl, SqT.of h1, rfl, _, _, rfl, rfl, .inl ⟨by omega, by omega⟩, _, _, rfl, rfl, (by show 3 ≤ sizeLine; decide), fun p hp => ?_⟩
    exact k _ p (Same.upd hp) upd_same
end
end Prog
set_option Elab.async false
set_option linter.all false
set_option maxRecDepth 100000
set_option maxHeartbeats 2000000
namespace Prog
open PySem PySem.Spec PyProof.Rows L2
open PySem.W (Codec)
section
variable {P : Program} {w : World} {K : PySem.W.Frag} {mg : Str → Option Value} {base : Heap}
/-! ### meeting_of -/
theorem edge_len {D : My.Pt → Prop} {E : List My.Pi} {t m : Int} (X : My.Edge D E t m) : 1 < E.length ∧ E[E.length - 1]? = some (m, 0) := by
  have hlast := X.last
  rw [List.getLast?_eq_getElem?] at hlast
  refine ⟨?_, hlast⟩
  have hE0 : E[0]? = some (0, t) := by
    obtain ⟨s, es⟩ := X.first
    rw [es]
    rfl
  rcases Nat.lt_or_ge 1 E.length with q | q
  · exact q
  · exfalso
    have e0 : E.length - 1 = 0 := by omega
    rw [e0, hE0] at hlast
    have e1 : (0 : Int) = m := congrArg Prod.fst (Option.some.inj hlast)
    have := X.hm
    omega
theorem ok_meeting_of {f f1 f2 f3 : Addr} {fd d1 d2 d3 : FuncData} (F : Fun K "meeting_of" "meeting_of" s_meeting_of f fd)
    (G1 : FnOk P w K mg base CX0 2 f1 d1 ["edge"] spLines) (m1 : mg "lines_of" = some (.ref f1)) (k1 : PySem.W.keepIn K (.ref f1) = true) (b1 : Binds K d1 ["edge"] [])
    (G2 : FnOk P w K mg base CX0 1 f2 d2 ["bend", "lines"] spBounded) (m2 : mg "is_bounded" = some (.ref f2)) (k2 : PySem.W.keepIn K (.ref f2) = true) (b2 : Binds K d2 ["bend", "lines"] [])
    (G3 : FnOk P w K mg base CX0 1 f3 d3 ["steep", "shallow"] spCross) (m3 : mg "crossing_of" = some (.ref f3)) (k3 : PySem.W.keepIn K (.ref f3) = true) (b3 : Binds K d3 ["steep", "shallow"] []) :
    FnOk P w K mg base CX0 3 f fd ["high", "wide"] spMeet := by
  refine F.ok sc_meeting_of (fun vs H Q E h => ?_) (fun cdv A outer s H vs Q E hr h => ?_)
  · obtain ⟨h, w, hs, ws, E, D, t, m, a, b, c, d, x, y, rfl, _⟩ := h
    rfl
  · obtain ⟨h, w, hs, ws, E, D, t, m, a, b, c, d, x, y, rfl, hh, hw, hph, hpw, X, q1, q2, O, hn, hb, k⟩ := h
    have hr1 : Room 1 _ := hr.mono (by decide)
    refine ⟨_, pss_cons (ps_set (i := 2) sc_meeting_of.nd rfl (Or.inl rfl) (pe_call G1 hr rfl m1 k1 b1 .nil pass0 (pa_cons (pv 0) pa_nil)))
      (pss_cons (ps_set (i := 3) sc_meeting_of.nd rfl (Or.inl rfl) (pe_call G1 hr rfl m1 k1 b1 .nil pass0 (pa_cons (pv 1) pa_nil)))
      (pss_cons (ps_set (i := 4) sc_meeting_of.nd rfl (Or.inl rfl) pe_int)
      (pss_cons (ps_while PassesOwn.never (pt_not (pt_val (pe_call G2 hr1 rfl m2 k2 b2 .nil pass0 (pa_cons (pe_ix ix_list (pv 0) (pv 4) (fun _ _ => rfl)) (pa_cons (pv 3) pa_nil))))) (pss_one (ps_set (i := 4) sc_meeting_of.nd rfl (Or.inl rfl) (pe_op op_add (pv 4) pe_int))))
      (pss_cons (ps_set (i := 5) sc_meeting_of.nd rfl (Or.inl rfl) pe_int)
      (pss_cons (ps_while PassesOwn.never (pt_val (pe_call G2 hr1 rfl m2 k2 b2 .nil pass0 (pa_cons (pe_ix ix_list (pv 1) (pv 5) (fun _ _ => rfl)) (pa_cons (pv 2) pa_nil)))) (pss_one (ps_set (i := 5) sc_meeting_of.nd rfl (Or.inl rfl) (pe_op op_add (pv 5) pe_int))))
      (pss_one (ps_ret (pe_call G3 hr1 rfl m3 k3 b3 .nil pass0 (pa_cons (pe_ix ix_list (pv 2) (pe_op op_sub (pv 4) pe_int) (fun _ _ => rfl)) (pa_cons (pe_ix ix_list (pv 3) (pe_op op_sub (pv 5) pe_int) (fun _ _ => rfl)) pa_nil)))))))))), ?_⟩
    obtain ⟨hE2, hEl⟩ := edge_len X
    obtain ⟨pa1, pa2, pa3⟩ := id q1
    obtain ⟨pc1, pc2, pc3⟩ := id q2
    have bH : ∀ z, z ∈ E.map (My.scl a d) → BndM z := fun z hz => by
      obtain ⟨z', hz', rfl⟩ := List.mem_map.mp hz
      exact scl_bnd (by omega) (by omega) (by omega) (by omega) (hb z' hz')
    have bW : ∀ z, z ∈ E.map (My.scl b c) → BndM z := fun z hz => by
      obtain ⟨z', hz', rfl⟩ := List.mem_map.mp hz
      exact scl_bnd (by omega) (by omega) (by omega) (by omega) (hb z' hz')
    have fH : Falls (E.map (My.scl a d)) := scl_falls X (by omega) (by omega)
    have fW : Falls (E.map (My.scl b c)) := scl_falls X (by omega) (by omega)
    have lH := lnb_of fH bH
    have lW := lnb_of fW bW
    have endH : My.BndI (My.scl a d (m, 0)) (E.map (My.scl b c)) := My.high_ends X q1 q2 O
    have endW : ¬ My.BndI (My.scl b c (m, 0)) (E.map (My.scl a d)) := My.wide_ends X q1 q2 O
    have lastH : (E.map (My.scl a d))[E.length - 1]? = some (My.scl a d (m, 0)) := by rw [List.getElem?_map, hEl]; rfl
    have lastW : (E.map (My.scl b c))[E.length - 1]? = some (My.scl b c (m, 0)) := by rw [List.getElem?_map, hEl]; rfl
    have lenH : (E.map (My.scl a d)).length = E.length := List.length_map ..
    have lenW : (E.map (My.scl b c)).length = E.length := List.length_map ..
    have due := @My.cross_due D E t m a b c d x y X q1 q2 O
    generalize E.map (My.scl a d) = U at *
    generalize E.map (My.scl b c) = W at *
    refine ⟨_, rfl, h, hs, U, rfl, hh, hph, by omega, by omega, bH, fun H1 hl lhs s1 hhl hLh => ?_⟩
    refine ⟨_, rfl, w, ws, W, rfl, s1 _ _ hw, hpw.same s1, by omega, by omega, bW, fun H2 wl lws s2 hwl hLw => ?_⟩
    have s12 := s1.trans s2
    have hh2 := s12 _ _ hh
    have hw2 := s12 _ _ hw
    have hhl2 := s2 _ _ hhl
    have hph2 := hph.same s12
    have hpw2 := hpw.same s12
    have hLh2 := hLh.same s2
    refine ⟨fun n σ H' => ∃ i : Nat, σ = [some (.ref h), some (.ref w), some (.ref hl), some (.ref wl), some (.int ((i : Int) + 1)), none] ∧ n = E.length - i ∧ H' = H2 ∧ i + 1 < E.length ∧ (i = 0 ∨ ∀ p, U[i]? = some p → ¬ My.BndI p W),
      ⟨_, 0, rfl, rfl, rfl, hE2, .inl rfl⟩, ?_⟩
    rintro n σ H' ⟨i, rfl, rfl, rfl, i2, hbi⟩
    have gq : U[i + 1]? = some U[i + 1] := List.getElem?_eq_getElem (by omega)
    obtain ⟨tq, htq, hpq⟩ := hph2.get gq
    refine ⟨_, rfl, _, rfl, _, _, _, _, rfl, rfl, SqL.of hh2, at_of (j := i + 1) (by omega) (map_at htq), _, rfl, ?_⟩
    refine ⟨tq, wl, lws, U[i + 1], linesI W, rfl, hpq, hwl, hLw, lW, fun bb hbb => ⟨_, rfl, ?_⟩⟩
    rw [within_bnd] at hbb
    cases bb with
    | false =>
      refine iteT ?_
      have nb : ¬ My.BndI U[i + 1] W := fun z => Bool.noConfusion (hbb.mpr z)
      have i3 : i + 2 < E.length := by
        rcases Nat.lt_or_ge (i + 2) E.length with q | q
        · exact q
        · exfalso
          have e0 : E.length - 1 = i + 1 := by omega
          rw [e0, gq] at lastH
          rw [Option.some.inj lastH] at nb
          exact nb endH
      refine ⟨_, fun _ _ h => h, ?_⟩
      refine ⟨_, rfl, _, _, rfl, rfl, ?_⟩
      refine ⟨E.length - (i + 1), by omega, i + 1, by push_cast; rfl, rfl, rfl, i3, .inr fun p hp0 => ?_⟩
      rw [gq] at hp0
      rw [← Option.some.inj hp0]
      exact nb
    | true =>
      refine iteF ?_
      have yb : My.BndI U[i + 1] W := hbb.mp rfl
      refine ⟨fun n σ H'' => ∃ j : Nat, σ = [some (.ref h), some (.ref w), some (.ref hl), some (.ref wl), some (.int ((i : Int) + 1)), some (.int ((j : Int) + 1))] ∧ n = E.length - j ∧ H'' = H' ∧ j + 1 < E.length ∧ (j = 0 ∨ ∀ p, W[j]? = some p → My.BndI p U),
        ⟨_, 0, rfl, rfl, rfl, hE2, .inl rfl⟩, ?_⟩
      rintro n σ H'' ⟨j, rfl, rfl, rfl, j2, hbj⟩
      have gq' : W[j + 1]? = some W[j + 1] := List.getElem?_eq_getElem (by omega)
      obtain ⟨tq', htq', hpq'⟩ := hpw2.get gq'
      refine ⟨_, rfl, _, rfl, _, _, _, _, rfl, rfl, SqL.of hw2, at_of (j := j + 1) (by omega) (map_at htq'), _, rfl, ?_⟩
      refine ⟨tq', hl, lhs, W[j + 1], linesI U, rfl, hpq', hhl2, hLh2, lH, fun bb hbb' => ⟨_, rfl, ?_⟩⟩
      rw [within_bnd] at hbb'
      cases bb with
      | true =>
        refine iteT ?_
        have yb' : My.BndI W[j + 1] U := hbb'.mp rfl
        have j3 : j + 2 < E.length := by
          rcases Nat.lt_or_ge (j + 2) E.length with q | q
          · exact q
          · exfalso
            have e0 : E.length - 1 = j + 1 := by omega
            rw [e0, gq'] at lastW
            rw [Option.some.inj lastW] at yb'
            exact endW yb'
        refine ⟨_, fun _ _ h => h, ?_⟩
        refine ⟨_, rfl, _, _, rfl, rfl, ?_⟩
        refine ⟨E.length - (j + 1), by omega, j + 1, by push_cast; rfl, rfl, rfl, j3, .inr fun p hp0 => ?_⟩
        rw [gq'] at hp0
        rw [← Option.some.inj hp0]
        exact yb'
      | false =>
        refine iteF ?_
        have nb' : ¬ My.BndI W[j + 1] U := fun z => Bool.noConfusion (hbb'.mpr z)
        have gp : U[i]? = some U[i] := List.getElem?_eq_getElem (by omega)
        have gp' : W[j]? = some W[j] := List.getElem?_eq_getElem (by omega)
        have gl := linesI_at gp gq
        have gl' := linesI_at gp' gq'
        obtain ⟨ta, hta, hpa⟩ := hLh2.get gl
        obtain ⟨tb, htb, hpb⟩ := hLw.get gl'
        have ba := lH _ (List.mem_of_getElem? gl)
        have bb := lW _ (List.mem_of_getElem? gl')
        obtain ⟨c1, c2, c3, c4⟩ := due gp gq (hbi.imp id fun z => z _ gp) yb gp' gq' (hbj.imp id fun z => z _ gp') nb'
        refine ⟨_, rfl, _, rfl, _, _, rfl, rfl, _, _, _, _, rfl, rfl, SqL.of hhl2, at_of (j := i) (by omega) (map_at hta), _, rfl, _, rfl, _, _, rfl, rfl, _, _, _, _, rfl, rfl, SqL.of hwl, at_of (j := j) (by omega) (map_at htb), ?_⟩
        refine ⟨ta, tb, _, _, rfl, hpa, hpb, ba, bb, fun H3 p s3 hp3 => ?_⟩
        refine k H3 p _ (s12.trans s3) hp3 c1 c2 c3 ?_ c4
        obtain ⟨u1, u2, u3, u4⟩ := ba
        obtain ⟨v1, v2, v3, v4⟩ := bb
        have p1 := Int.mul_le_mul u2 v4 v3 (by decide)
        have p2 := Int.mul_nonneg v1 u3
        show (lineI U[i] U[i + 1]).1 * (lineI W[j] W[j + 1]).2.1 - (lineI W[j] W[j + 1]).1 * (lineI U[i] U[i + 1]).2.1 ≤ _
        omega
/-! ### two_offers -/
theorem ok_two_offers {f f1 f2 f3 : Addr} {fd d1 d2 d3 : FuncData} (F : Fun K "two_offers" "two_offers" s_two_offers f fd)
    (G1 : FnOk P w K mg base CX0 3 f1 d1 ["high", "wide"] spMeet) (m1 : mg "meeting_of" = some (.ref f1)) (k1 : PySem.W.keepIn K (.ref f1) = true) (b1 : Binds K d1 ["high", "wide"] [])
    (G2 : FnOk P w K mg base CX0 1 f2 d2 ["edge", "first_times", "second_times"] spDrawn) (m2 : mg "drawn_larger" = some (.ref f2)) (k2 : PySem.W.keepIn K (.ref f2) = true) (b2 : Binds K d2 ["edge", "first_times", "second_times"] [])
    (G3 : FnOk P w K mg base CX0 2 f3 d3 ["upper", "lower"] spFrac) (m3 : mg "fraction" = some (.ref f3)) (k3 : PySem.W.keepIn K (.ref f3) = true) (b3 : Binds K d3 ["upper", "lower"] []) :
    FnOk P w K mg base CX0 4 f fd ["edge", "a", "b", "c", "d"] spTwo := by
  refine F.ok sc_two_offers (fun vs H Q E h => ?_) (fun cdv A outer s H vs Q E hr h => ?_)
  · obtain ⟨e, es, E, D, t, m, a, b, c, d, x, y, rfl, _⟩ := h
    rfl
  · obtain ⟨e, es, E, D, t, m, a, b, c, d, x, y, rfl, he, hp, X, q1, q2, O, hn, hb, k⟩ := h
    have hr1 : Room 1 _ := hr.mono (by decide)
    have hr2 : Room 2 _ := hr.mono (by decide)
    refine ⟨_, pss_cons (ps_set (i := 5) sc_two_offers.nd rfl (Or.inl rfl) (pe_call G1 hr rfl m1 k1 b1 .nil pass0 (pa_cons (pe_call G2 hr1 rfl m2 k2 b2 .nil pass0 (pa_cons (pv 0) (pa_cons (pv 1) (pa_cons (pv 4) pa_nil)))) (pa_cons (pe_call G2 hr1 rfl m2 k2 b2 .nil pass0 (pa_cons (pv 0) (pa_cons (pv 2) (pa_cons (pv 3) pa_nil)))) pa_nil))))
      (pss_cons (ps_set (i := 6) sc_two_offers.nd rfl (Or.inl rfl) (pe_ix ix_tup (pv 5) pe_int (fun _ _ => rfl)))
      (pss_cons (ps_set (i := 7) sc_two_offers.nd rfl (Or.inl rfl) (pe_ix ix_tup (pv 5) pe_int (fun _ _ => rfl)))
      (pss_cons (ps_set (i := 8) sc_two_offers.nd rfl (Or.inl rfl) (pe_ix ix_tup (pv 5) pe_int (fun _ _ => rfl)))
      (pss_cons (ps_set (i := 9) sc_two_offers.nd rfl (Or.inl rfl) (pe_op op_cat (pe_call G3 hr2 rfl m3 k3 b3 .nil pass0 (pa_cons (pv 6) (pa_cons (pe_op op_mul (pv 8) (pv 1)) pa_nil))) (pe_call G3 hr2 rfl m3 k3 b3 .nil pass0 (pa_cons (pv 7) (pa_cons (pe_op op_mul (pv 8) (pv 4)) pa_nil)))))
      (pss_cons (ps_set (i := 10) sc_two_offers.nd rfl (Or.inl rfl) (pe_op op_cat (pe_call G3 hr2 rfl m3 k3 b3 .nil pass0 (pa_cons (pv 6) (pa_cons (pe_op op_mul (pv 8) (pv 2)) pa_nil))) (pe_call G3 hr2 rfl m3 k3 b3 .nil pass0 (pa_cons (pv 7) (pa_cons (pe_op op_mul (pv 8) (pv 3)) pa_nil)))))
      (pss_one (ps_ret (pe_op op_cat (pv 9) (pv 10))))))))), ?_⟩
    obtain ⟨pa1, pa2, pa3⟩ := id q1
    obtain ⟨pc1, pc2, pc3⟩ := id q2
    refine ⟨_, rfl, _, rfl, _, rfl, e, es, E, a, d, rfl, he, hp, hn, hb, fun H1 h hs s1 hh hph => ?_⟩
    refine ⟨_, rfl, _, rfl, _, rfl, e, es, E, b, c, rfl, s1 _ _ he, hp.same s1, hn, hb, fun H2 w ws s2 hw hpw => ?_⟩
    refine ⟨h, w, hs, ws, E, D, t, m, a, b, c, d, x, y, rfl, s2 _ _ hh, hw, hph.same s2, hpw, X, q1, q2, O, hn, hb, fun H3 z Z s3 hz z1 z2 z3 z4 ez => ?_⟩
    refine ⟨_, rfl, _, _, _, _, rfl, rfl, SqT.of hz, rfl, ?_⟩
    refine ⟨_, rfl, _, _, _, _, rfl, rfl, SqT.of hz, rfl, ?_⟩
    refine ⟨_, rfl, _, _, _, _, rfl, rfl, SqT.of hz, rfl, ?_⟩
    have pm : ∀ {v : Int}, 1 ≤ v → v ≤ 1000 → 0 < Z.2.2 * v ∧ Z.2.2 * v < 2 ^ 256 := fun {v} h1 h2 => by
      refine ⟨Int.mul_pos z3 (by omega), ?_⟩
      have : Z.2.2 * v ≤ 1000000000000 * 1000 := Int.mul_le_mul z4 h2 (by omega) (by decide)
      omega
    have ma := pm (v := a) (by omega) (by omega)
    have mb := pm (v := b) (by omega) (by omega)
    have mc := pm (v := c) (by omega) (by omega)
    have md := pm (v := d) (by omega) (by omega)
    refine ⟨_, rfl, _, rfl, _, rfl, _, _, rfl, rfl, .inr ⟨by omega, by omega⟩, _, _, rfl, z1, ma.1, ma.2, fun H4 p1 s4 e1 => ?_⟩
    refine ⟨_, rfl, _, rfl, _, rfl, _, _, rfl, rfl, .inr ⟨by omega, by omega⟩, _, _, rfl, z2, md.1, md.2, fun H5 p2 s5 e2 => ?_⟩
    refine two_fracs s4 s5 e1 e2 rfl (fun H6 o1 s6 eo1 => ?_)
    refine ⟨_, rfl, _, rfl, _, rfl, _, _, rfl, rfl, .inr ⟨by omega, by omega⟩, _, _, rfl, z1, mb.1, mb.2, fun H7 p3 s7 e3 => ?_⟩
    refine ⟨_, rfl, _, rfl, _, rfl, _, _, rfl, rfl, .inr ⟨by omega, by omega⟩, _, _, rfl, z2, mc.1, mc.2, fun H8 p4 s8 e4 => ?_⟩
    refine two_fracs s7 s8 e3 e4 rfl (fun H9 o2 s9 eo2 => ?_)
    refine ⟨_, rfl, _, rfl, o1, o2, _, _, rfl, rfl, s9 _ _ eo1, eo2, ?_, fun p hp' => ?_⟩
    · rw [List.length_map, List.length_map]
      show 4 + 4 ≤ sizeLine
      decide
    · refine k _ p ((s1.trans (s2.trans s3)).trans ((s6.trans s9).trans (Same.upd hp'))) ?_
      rw [upd_same, ← ez]
      show _ = some (HO.lst ((My.offersI a b c d Z).map V.int))
      unfold My.offersI
      rw [← List.map_append]
/-! ### talk -/
abbrev topRoom : Nat := 5
theorem asked_of {k a b c d : Int} {p : List Int} (h : PyQl88.talk_asked k a b c d p = true) : (∀ x, x ∈ p → 0 ≤ x ∧ x < 65536) ∧ (p.length : Int) = if 1 ≤ k ∧ k ≤ 256 then 2 * k else 0 := by
  have h' : (true && ((([3, k, a, b, c, d] : List Int).all Ql88Neutral.whole32) && Ql88Neutral.row k p)) = true := h
  rw [Bool.true_and, Bool.and_eq_true] at h'
  exact row_of h'.2
def spTop (K : PySem.W.Frag) : Sp := fun vs H Q _ => ∃ (k a b c d : Int) (l : Addr) (ns : List Int), vs = [.int k, .int a, .int b, .int c, .int d, .ref l] ∧ SqL K H l (ns.map V.int) ∧ PyQl88.talk_asked k a b c d ns = true ∧
  ∀ (H' : Hp) (p : Addr), H' p = some (.lst ((PyQl88.talk k a b c d ns).map V.int)) → Q (.ref p) H'
theorem ok_talk {f f0 f1 f2 f3 f4 f5 : Addr} {fd d0 d1 d2 d3 d4 d5 : FuncData} (F : Fun K "talk" "talk" s_talk f fd)
    (G0 : FnOk P w K mg base CX0 1 f0 d0 ["upper", "lower"] spWait) (m0 : mg "is_left_by_waiting" = some (.ref f0)) (k0 : PySem.W.keepIn K (.ref f0) = true) (b0 : Binds K d0 ["upper", "lower"] [])
    (G1 : FnOk P w K mg base CX0 2 f1 d1 ["k", "p"] (spRefusal K)) (m1 : mg "refusal_of" = some (.ref f1)) (k1 : PySem.W.keepIn K (.ref f1) = true) (b1 : Binds K d1 ["k", "p"] [])
    (G4 : FnOk P w K mg base CX0 4 f4 d4 ["edge", "a", "b", "c", "d"] spTwo) (m4 : mg "two_offers" = some (.ref f4)) (k4 : PySem.W.keepIn K (.ref f4) = true) (b4 : Binds K d4 ["edge", "a", "b", "c", "d"] [])
    (G5 : FnOk P w K mg base CX0 1 f5 d5 ["outline"] spEdge) (m5 : mg "edge_of" = some (.ref f5)) (k5 : PySem.W.keepIn K (.ref f5) = true) (b5 : Binds K d5 ["outline"] [])
    (G3 : FnOk P w K mg base CX0 3 f3 d3 ["corners"] spOutline) (m3 : mg "outline_of" = some (.ref f3)) (k3 : PySem.W.keepIn K (.ref f3) = true) (b3 : Binds K d3 ["corners"] [])
    (G2 : FnOk P w K mg base CX0 1 f2 d2 ["k", "p"] (spCorners K)) (m2 : mg "corners_of" = some (.ref f2)) (k2 : PySem.W.keepIn K (.ref f2) = true) (b2 : Binds K d2 ["k", "p"] []) :
    FnOk P w K mg base CX0 topRoom f fd ["k", "a", "b", "c", "d", "p"] (spTop K) := by
  refine F.ok sc_talk (fun vs H Q E h => ?_) (fun cdv A outer s H vs Q E hr h => ?_)
  · obtain ⟨k, a, b, c, d, l, ns, rfl, _⟩ := h
    rfl
  · obtain ⟨k, a, b, c, d, l, ns, rfl, hS, hask, q⟩ := h
    have hr1 : Room 1 _ := hr.mono (by decide)
    have hr2 : Room 2 _ := hr.mono (by decide)
    have hr3 : Room 3 _ := hr.mono (by decide)
    refine ⟨_, pss_cons (ps_if (PW.pt (pw_or (pt_not (pt_val (pe_call G0 hr1 rfl m0 k0 b0 .nil pass0 (pa_cons (pv 1) (pa_cons (pv 2) pa_nil))))) (pw_or1 (pt_not (pt_val (pe_call G0 hr1 rfl m0 k0 b0 .nil pass0 (pa_cons (pv 3) (pa_cons (pv 4) pa_nil)))))))) (pss_one (ps_ret (pe_lst (pa_cons (pe_un un_neg pe_int) pa_nil)))) pss_nil)
      (pss_cons (ps_set (i := 6) sc_talk.nd rfl (Or.inl rfl) (pe_call G1 hr2 rfl m1 k1 b1 .nil pass0 (pa_cons (pv 0) (pa_cons (pv 5) pa_nil))))
      (pss_cons (ps_if (pt_cmp (pc_neI (pv 6) pe_int)) (pss_one (ps_ret (pe_lst (pa_cons (pv 6) pa_nil)))) pss_nil)
      (pss_one (ps_ret (pe_op op_cat (pe_lst (pa_cons pe_int pa_nil)) (pe_call G4 hr rfl m4 k4 b4 .nil pass0 (pa_cons (pe_call G5 hr1 rfl m5 k5 b5 .nil pass0 (pa_cons (pe_call G3 hr3 rfl m3 k3 b3 .nil pass0 (pa_cons (pe_call G2 hr1 rfl m2 k2 b2 .nil pass0 (pa_cons (pv 0) (pa_cons (pv 5) pa_nil))) pa_nil)) pa_nil)) (pa_cons (pv 1) (pa_cons (pv 2) (pa_cons (pv 3) (pa_cons (pv 4) pa_nil))))))))))), ?_⟩
    obtain ⟨a1, a2⟩ := asked_of hask
    have hnn : ∀ x, x ∈ ns → 0 ≤ x := fun x hx => (a1 x hx).1
    have bad : ¬ (My.Pat a b ∧ My.Pat c d) → ∀ (H' : Hp) (p : Addr), H' p = some (.lst [V.int (-2)]) → Q (.ref p) H' := fun no H' p hp => q H' p (by
      rw [My.talk_2 fun z => no z.2]
      exact hp)
    refine ⟨_, rfl, _, rfl, a, b, rfl, fun w1 hw1 => ⟨_, rfl, ?_⟩⟩
    cases w1 with
    | false =>
      refine iteT (iteT ?_)
      refine ⟨_, rfl, (by show 1 ≤ sizeLine; decide), fun p hp' => ?_⟩
      exact bad (fun z => Bool.noConfusion (hw1.mpr z.1)) _ p upd_same
    | true =>
      refine iteF ?_
      refine ⟨_, rfl, _, rfl, c, d, rfl, fun w2 hw2 => ⟨_, rfl, ?_⟩⟩
      cases w2 with
      | false =>
        refine iteT ?_
        refine ⟨_, rfl, (by show 1 ≤ sizeLine; decide), fun p hp' => ?_⟩
        exact bad (fun z => Bool.noConfusion (hw2.mpr z.2)) _ p upd_same
      | true =>
        refine iteF ?_
        have q1 : My.Pat a b := hw1.mp rfl
        have q2 : My.Pat c d := hw2.mp rfl
        refine ⟨_, rfl, _, rfl, k, l, ns, rfl, hS, a1, a2, fun r H1 s1 hr' => ?_⟩
        refine ⟨_, rfl, _, _, rfl, rfl, _, rfl, ?_⟩
        rcases hr' with ⟨hk, rfl⟩ | ⟨hk, hw, rfl⟩ | ⟨hk, hw, rfl⟩
        · refine iteY (by decide) ?_
          refine ⟨_, rfl, (by show 1 ≤ sizeLine; decide), fun p hp' => ?_⟩
          refine q _ p ?_
          rw [My.talk_2 fun z => hk z.1]
          exact upd_same
        · rw [if_pos hk] at a2
          have hn : ns.length = 2 * k.toNat := by omega
          refine iteY (by decide) ?_
          refine ⟨_, rfl, (by show 1 ≤ sizeLine; decide), fun p hp' => ?_⟩
          refine q _ p ?_
          rw [My.talk_1 hk.1 hk.2 q1 q2 hn hnn hw]
          exact upd_same
        · rw [if_pos hk] at a2
          have hn : ns.length = 2 * k.toNat := by omega
          have hpl : (My.pairs ns).length = k.toNat := My.pairs_length hn
          have hne : My.pairs ns ≠ [] := fun e => by
            rw [e] at hpl
            simp at hpl
            omega
          have hnn2 : ∀ v, v ∈ My.pairs ns → 0 ≤ v.1 ∧ 0 ≤ v.2 := fun v hv => ⟨hnn _ (My.pairs_mem hv).1, hnn _ (My.pairs_mem hv).2⟩
          have hbn : ∀ v, v ∈ My.pairs ns → Bnd v := fun v hv => ⟨(hnn2 v hv).1, (hw.small v hv).1, (hnn2 v hv).2, (hw.small v hv).2⟩
          refine iteN (by decide) ?_
          refine ⟨(by show 1 ≤ sizeLine; decide), fun y hy => ?_⟩
          have s2 : Same H1 (L2.upd H1 y (.lst [V.int 0])) := Same.upd hy
          refine ⟨_, rfl, _, rfl, k, l, ns, rfl, (s1.trans s2).seq hS, by omega, by omega, a2, fun H2 lc ts s3 hl hp => ?_⟩
          refine ⟨lc, ts, _, rfl, hl, hp, by omega, hbn, fun H3 o us cs s4 hperm hsort ho hu => ?_⟩
          have hoa := OA.of hw hnn2 (by omega) hne hperm hsort
          obtain ⟨bl, bb⟩ := hoa.bnds
          obtain ⟨t, m, x, z, X, O, due⟩ := My.talk_edge hoa.nn hoa.g1 hoa.g2 hoa.out q1 q2
          refine ⟨o, us, _, rfl, ho, hu, hoa.ne, hoa.len, fun H5 e es s6 he hpe => ?_⟩
          refine ⟨_, rfl, _, rfl, _, rfl, _, rfl, e, es, _, _, t, m, a, b, c, d, x, z, rfl, he, hpe, X, q1, q2, O, bl, bb, fun H6 p s7 hp6 => ?_⟩
          refine ⟨y, p, _, _, rfl, rfl, ((s3.trans s4).trans (s6.trans s7)) _ _ upd_same, hp6, ?_, fun x' hx => ?_⟩
          · rw [List.length_map, List.length_singleton]
            show 1 + 8 ≤ sizeLine
            decide
          · refine q _ x' ?_
            rw [upd_same, My.talk_0 hk.1 hk.2 q1 q2 hn hnn hw, due]
            rfl
end
end Prog
set_option Elab.async false
set_option linter.all false
set_option maxRecDepth 100000
set_option maxHeartbeats 2000000
namespace Prog
open PySem PySem.Spec PyProof.Rows L2
open PySem.W (Codec)
/-! ### what the top has written -/
theorem all_mk {P : Program} {w : World} {K : PySem.W.Frag} {h : Heap} {mg : Str → Option Value} {fa f0 f1 f2 f3 f4 f5 f6 f7 f8 f9 f10 f11 f12 f13 f14 f15 f16 f17 f18 : Addr} {tk0 tk1 tk2 : Tok} (X : K.In h) (G : h.Ns mainGlobals mg) (hfa : mg "talk" = some (.ref fa))
    {od0 an0 od1 an1 od2 an2 od3 an3 od4 an4 od5 an5 od6 an6 od7 an7 od8 an8 od9 an9 od10 an10 od11 an11 od12 an12 od13 an13 od14 an14 od15 an15 od16 an16 od17 an17 od18 an18 : Option Addr} {sl0 sl1 sl2 sl3 sl4 sl5 sl6 sl7 sl8 sl9 sl10 sl11 sl12 sl13 sl14 sl15 sl16 sl17 sl18 : Array (Option Value)} {oc0 kV0 dc0 pm0 cd0 ct0 oc1 kV1 dc1 pm1 cd1 ct1 oc2 kV2 dc2 pm2 cd2 ct2 oc3 kV3 dc3 pm3 cd3 ct3 oc4 kV4 dc4 pm4 cd4 ct4 oc5 kV5 dc5 pm5 cd5 ct5 oc6 kV6 dc6 pm6 cd6 ct6 oc7 kV7 dc7 pm7 cd7 ct7 oc8 kV8 dc8 pm8 cd8 ct8 oc9 kV9 dc9 pm9 cd9 ct9 oc10 kV10 dc10 pm10 cd10 ct10 oc11 kV11 dc11 pm11 cd11 ct11 oc12 kV12 dc12 pm12 cd12 ct12 oc13 kV13 dc13 pm13 cd13 ct13 oc14 kV14 dc14 pm14 cd14 ct14 oc15 kV15 dc15 pm15 cd15 ct15 oc16 kV16 dc16 pm16 cd16 ct16 oc17 kV17 dc17 pm17 cd17 ct17 oc18 kV18 dc18 pm18 cd18 ct18 : Value}
    (a0 : PySem.W.nsIn K mainGlobals "talk" = some (some (.ref f0))) (l0 : K.lookup f0 = some ⟨oc0, od0, .func (PySem.W.fnOf "talk" "talk" (defArgs s_talk) (defBody s_talk) (defScope s_talk) .none kV0 dc0 pm0 an0 cd0 ct0), sl0⟩) (c0 : PySem.W.codeIn K cd0 "talk" = true) (k0 : PySem.W.keepIn K (.ref f0) = true)
    (a1 : PySem.W.nsIn K mainGlobals "is_left_by_waiting" = some (some (.ref f1))) (l1 : K.lookup f1 = some ⟨oc1, od1, .func (PySem.W.fnOf "is_left_by_waiting" "is_left_by_waiting" (defArgs s_is_left_by_waiting) (defBody s_is_left_by_waiting) (defScope s_is_left_by_waiting) .none kV1 dc1 pm1 an1 cd1 ct1), sl1⟩) (c1 : PySem.W.codeIn K cd1 "is_left_by_waiting" = true) (k1 : PySem.W.keepIn K (.ref f1) = true)
    (a2 : PySem.W.nsIn K mainGlobals "refusal_of" = some (some (.ref f2))) (l2 : K.lookup f2 = some ⟨oc2, od2, .func (PySem.W.fnOf "refusal_of" "refusal_of" (defArgs s_refusal_of) (defBody s_refusal_of) (defScope s_refusal_of) .none kV2 dc2 pm2 an2 cd2 ct2), sl2⟩) (c2 : PySem.W.codeIn K cd2 "refusal_of" = true) (k2 : PySem.W.keepIn K (.ref f2) = true)
    (a3 : PySem.W.nsIn K mainGlobals "is_count" = some (some (.ref f3))) (l3 : K.lookup f3 = some ⟨oc3, od3, .func (PySem.W.fnOf "is_count" "is_count" (defArgs s_is_count) (defBody s_is_count) (defScope s_is_count) .none kV3 dc3 pm3 an3 cd3 ct3), sl3⟩) (c3 : PySem.W.codeIn K cd3 "is_count" = true) (k3 : PySem.W.keepIn K (.ref f3) = true)
    (a4 : PySem.W.nsIn K mainGlobals "corners_of" = some (some (.ref f4))) (l4 : K.lookup f4 = some ⟨oc4, od4, .func (PySem.W.fnOf "corners_of" "corners_of" (defArgs s_corners_of) (defBody s_corners_of) (defScope s_corners_of) .none kV4 dc4 pm4 an4 cd4 ct4), sl4⟩) (c4 : PySem.W.codeIn K cd4 "corners_of" = true) (k4 : PySem.W.keepIn K (.ref f4) = true)
    (a5 : PySem.W.nsIn K mainGlobals "are_worth_a_deal" = some (some (.ref f5))) (l5 : K.lookup f5 = some ⟨oc5, od5, .func (PySem.W.fnOf "are_worth_a_deal" "are_worth_a_deal" (defArgs s_are_worth_a_deal) (defBody s_are_worth_a_deal) (defScope s_are_worth_a_deal) .none kV5 dc5 pm5 an5 cd5 ct5), sl5⟩) (c5 : PySem.W.codeIn K cd5 "are_worth_a_deal" = true) (k5 : PySem.W.keepIn K (.ref f5) = true)
    (a6 : PySem.W.nsIn K mainGlobals "outline_of" = some (some (.ref f6))) (l6 : K.lookup f6 = some ⟨oc6, od6, .func (PySem.W.fnOf "outline_of" "outline_of" (defArgs s_outline_of) (defBody s_outline_of) (defScope s_outline_of) .none kV6 dc6 pm6 an6 cd6 ct6), sl6⟩) (c6 : PySem.W.codeIn K cd6 "outline_of" = true) (k6 : PySem.W.keepIn K (.ref f6) = true)
    (a7 : PySem.W.nsIn K mainGlobals "is_last_needless" = some (some (.ref f7))) (l7 : K.lookup f7 = some ⟨oc7, od7, .func (PySem.W.fnOf "is_last_needless" "is_last_needless" (defArgs s_is_last_needless) (defBody s_is_last_needless) (defScope s_is_last_needless) .none kV7 dc7 pm7 an7 cd7 ct7), sl7⟩) (c7 : PySem.W.codeIn K cd7 "is_last_needless" = true) (k7 : PySem.W.keepIn K (.ref f7) = true)
    (a8 : PySem.W.nsIn K mainGlobals "is_within" = some (some (.ref f8))) (l8 : K.lookup f8 = some ⟨oc8, od8, .func (PySem.W.fnOf "is_within" "is_within" (defArgs s_is_within) (defBody s_is_within) (defScope s_is_within) .none kV8 dc8 pm8 an8 cd8 ct8), sl8⟩) (c8 : PySem.W.codeIn K cd8 "is_within" = true) (k8 : PySem.W.keepIn K (.ref f8) = true)
    (a9 : PySem.W.nsIn K mainGlobals "edge_of" = some (some (.ref f9))) (l9 : K.lookup f9 = some ⟨oc9, od9, .func (PySem.W.fnOf "edge_of" "edge_of" (defArgs s_edge_of) (defBody s_edge_of) (defScope s_edge_of) .none kV9 dc9 pm9 an9 cd9 ct9), sl9⟩) (c9 : PySem.W.codeIn K cd9 "edge_of" = true) (k9 : PySem.W.keepIn K (.ref f9) = true)
    (a10 : PySem.W.nsIn K mainGlobals "line_through" = some (some (.ref f10))) (l10 : K.lookup f10 = some ⟨oc10, od10, .func (PySem.W.fnOf "line_through" "line_through" (defArgs s_line_through) (defBody s_line_through) (defScope s_line_through) .none kV10 dc10 pm10 an10 cd10 ct10), sl10⟩) (c10 : PySem.W.codeIn K cd10 "line_through" = true) (k10 : PySem.W.keepIn K (.ref f10) = true)
    (a11 : PySem.W.nsIn K mainGlobals "two_offers" = some (some (.ref f11))) (l11 : K.lookup f11 = some ⟨oc11, od11, .func (PySem.W.fnOf "two_offers" "two_offers" (defArgs s_two_offers) (defBody s_two_offers) (defScope s_two_offers) .none kV11 dc11 pm11 an11 cd11 ct11), sl11⟩) (c11 : PySem.W.codeIn K cd11 "two_offers" = true) (k11 : PySem.W.keepIn K (.ref f11) = true)
    (a12 : PySem.W.nsIn K mainGlobals "drawn_larger" = some (some (.ref f12))) (l12 : K.lookup f12 = some ⟨oc12, od12, .func (PySem.W.fnOf "drawn_larger" "drawn_larger" (defArgs s_drawn_larger) (defBody s_drawn_larger) (defScope s_drawn_larger) .none kV12 dc12 pm12 an12 cd12 ct12), sl12⟩) (c12 : PySem.W.codeIn K cd12 "drawn_larger" = true) (k12 : PySem.W.keepIn K (.ref f12) = true)
    (a13 : PySem.W.nsIn K mainGlobals "meeting_of" = some (some (.ref f13))) (l13 : K.lookup f13 = some ⟨oc13, od13, .func (PySem.W.fnOf "meeting_of" "meeting_of" (defArgs s_meeting_of) (defBody s_meeting_of) (defScope s_meeting_of) .none kV13 dc13 pm13 an13 cd13 ct13), sl13⟩) (c13 : PySem.W.codeIn K cd13 "meeting_of" = true) (k13 : PySem.W.keepIn K (.ref f13) = true)
    (a14 : PySem.W.nsIn K mainGlobals "lines_of" = some (some (.ref f14))) (l14 : K.lookup f14 = some ⟨oc14, od14, .func (PySem.W.fnOf "lines_of" "lines_of" (defArgs s_lines_of) (defBody s_lines_of) (defScope s_lines_of) .none kV14 dc14 pm14 an14 cd14 ct14), sl14⟩) (c14 : PySem.W.codeIn K cd14 "lines_of" = true) (k14 : PySem.W.keepIn K (.ref f14) = true)
    (a15 : PySem.W.nsIn K mainGlobals "is_bounded" = some (some (.ref f15))) (l15 : K.lookup f15 = some ⟨oc15, od15, .func (PySem.W.fnOf "is_bounded" "is_bounded" (defArgs s_is_bounded) (defBody s_is_bounded) (defScope s_is_bounded) .none kV15 dc15 pm15 an15 cd15 ct15), sl15⟩) (c15 : PySem.W.codeIn K cd15 "is_bounded" = true) (k15 : PySem.W.keepIn K (.ref f15) = true)
    (a16 : PySem.W.nsIn K mainGlobals "crossing_of" = some (some (.ref f16))) (l16 : K.lookup f16 = some ⟨oc16, od16, .func (PySem.W.fnOf "crossing_of" "crossing_of" (defArgs s_crossing_of) (defBody s_crossing_of) (defScope s_crossing_of) .none kV16 dc16 pm16 an16 cd16 ct16), sl16⟩) (c16 : PySem.W.codeIn K cd16 "crossing_of" = true) (k16 : PySem.W.keepIn K (.ref f16) = true)
    (a17 : PySem.W.nsIn K mainGlobals "fraction" = some (some (.ref f17))) (l17 : K.lookup f17 = some ⟨oc17, od17, .func (PySem.W.fnOf "fraction" "fraction" (defArgs s_fraction) (defBody s_fraction) (defScope s_fraction) .none kV17 dc17 pm17 an17 cd17 ct17), sl17⟩) (c17 : PySem.W.codeIn K cd17 "fraction" = true) (k17 : PySem.W.keepIn K (.ref f17) = true)
    (a18 : PySem.W.nsIn K mainGlobals "common_divisor" = some (some (.ref f18))) (l18 : K.lookup f18 = some ⟨oc18, od18, .func (PySem.W.fnOf "common_divisor" "common_divisor" (defArgs s_common_divisor) (defBody s_common_divisor) (defScope s_common_divisor) .none kV18 dc18 pm18 an18 cd18 ct18), sl18⟩) (c18 : PySem.W.codeIn K cd18 "common_divisor" = true) (k18 : PySem.W.keepIn K (.ref f18) = true)
    (y0 : PySem.W.nsIn K mainGlobals "MOST_CORNERS" = some (some (.int 256 tk0)))
    (y1 : PySem.W.nsIn K mainGlobals "MOST_NUMBER" = some (some (.int 1000 tk1)))
    (y2 : PySem.W.nsIn K mainGlobals "MOST_LOWER" = some (some (.int 1000 tk2)))
    (z0 : PySem.W.nsIn K mainGlobals "range" = some none)
    (z1 : PySem.W.nsIn K mainGlobals "max" = some none)
    (z2 : PySem.W.nsIn K mainGlobals "sorted" = some none)
    (z3 : PySem.W.nsIn K mainGlobals "len" = some none) :
    ∃ fd : FuncData, (∀ (s : Shared) (us : List Value), us.length = (["k", "a", "b", "c", "d", "p"] : List Str).length → BindsTo s fd ⟨us, []⟩ ((["k", "a", "b", "c", "d", "p"] : List Str).zip us)) ∧ ∀ base : Heap, K.In base → base.Ns mainGlobals mg → FnOk P w K mg base CX0 topRoom fa fd ["k", "a", "b", "c", "d", "p"] (spTop K) := by
  have e := hfa.symm.trans (PySem.W.mg_of X G a0)
  cases e
  have F_talk := fun_mk (st := s_talk) l0 c0 k0
  have k_talk := k0
  have F_is_left_by_waiting := fun_mk (st := s_is_left_by_waiting) l1 c1 k1
  have k_is_left_by_waiting := k1
  have b_is_left_by_waiting := F_is_left_by_waiting.binds (ps := ["upper", "lower"]) fun _ _ _ _ _ _ us hl => match us, hl with | [_, _], _ => rfl
  have m_is_left_by_waiting := PySem.W.mg_of X G a1
  have F_refusal_of := fun_mk (st := s_refusal_of) l2 c2 k2
  have k_refusal_of := k2
  have b_refusal_of := F_refusal_of.binds (ps := ["k", "p"]) fun _ _ _ _ _ _ us hl => match us, hl with | [_, _], _ => rfl
  have m_refusal_of := PySem.W.mg_of X G a2
  have F_is_count := fun_mk (st := s_is_count) l3 c3 k3
  have k_is_count := k3
  have b_is_count := F_is_count.binds (ps := ["k"]) fun _ _ _ _ _ _ us hl => match us, hl with | [_], _ => rfl
  have m_is_count := PySem.W.mg_of X G a3
  have F_corners_of := fun_mk (st := s_corners_of) l4 c4 k4
  have k_corners_of := k4
  have b_corners_of := F_corners_of.binds (ps := ["k", "p"]) fun _ _ _ _ _ _ us hl => match us, hl with | [_, _], _ => rfl
  have m_corners_of := PySem.W.mg_of X G a4
  have F_are_worth_a_deal := fun_mk (st := s_are_worth_a_deal) l5 c5 k5
  have k_are_worth_a_deal := k5
  have b_are_worth_a_deal := F_are_worth_a_deal.binds (ps := ["corners"]) fun _ _ _ _ _ _ us hl => match us, hl with | [_], _ => rfl
  have m_are_worth_a_deal := PySem.W.mg_of X G a5
  have F_outline_of := fun_mk (st := s_outline_of) l6 c6 k6
  have k_outline_of := k6
  have b_outline_of := F_outline_of.binds (ps := ["corners"]) fun _ _ _ _ _ _ us hl => match us, hl with | [_], _ => rfl
  have m_outline_of := PySem.W.mg_of X G a6
  have F_is_last_needless := fun_mk (st := s_is_last_needless) l7 c7 k7
  have k_is_last_needless := k7
  have b_is_last_needless := F_is_last_needless.binds (ps := ["outline", "corner"]) fun _ _ _ _ _ _ us hl => match us, hl with | [_, _], _ => rfl
  have m_is_last_needless := PySem.W.mg_of X G a7
  have F_is_within := fun_mk (st := s_is_within) l8 c8 k8
  have k_is_within := k8
  have b_is_within := F_is_within.binds (ps := ["left", "middle", "right"]) fun _ _ _ _ _ _ us hl => match us, hl with | [_, _, _], _ => rfl
  have m_is_within := PySem.W.mg_of X G a8
  have F_edge_of := fun_mk (st := s_edge_of) l9 c9 k9
  have k_edge_of := k9
  have b_edge_of := F_edge_of.binds (ps := ["outline"]) fun _ _ _ _ _ _ us hl => match us, hl with | [_], _ => rfl
  have m_edge_of := PySem.W.mg_of X G a9
  have F_line_through := fun_mk (st := s_line_through) l10 c10 k10
  have k_line_through := k10
  have b_line_through := F_line_through.binds (ps := ["left", "right"]) fun _ _ _ _ _ _ us hl => match us, hl with | [_, _], _ => rfl
  have m_line_through := PySem.W.mg_of X G a10
  have F_two_offers := fun_mk (st := s_two_offers) l11 c11 k11
  have k_two_offers := k11
  have b_two_offers := F_two_offers.binds (ps := ["edge", "a", "b", "c", "d"]) fun _ _ _ _ _ _ us hl => match us, hl with | [_, _, _, _, _], _ => rfl
  have m_two_offers := PySem.W.mg_of X G a11
  have F_drawn_larger := fun_mk (st := s_drawn_larger) l12 c12 k12
  have k_drawn_larger := k12
  have b_drawn_larger := F_drawn_larger.binds (ps := ["edge", "first_times", "second_times"]) fun _ _ _ _ _ _ us hl => match us, hl with | [_, _, _], _ => rfl
  have m_drawn_larger := PySem.W.mg_of X G a12
  have F_meeting_of := fun_mk (st := s_meeting_of) l13 c13 k13
  have k_meeting_of := k13
  have b_meeting_of := F_meeting_of.binds (ps := ["high", "wide"]) fun _ _ _ _ _ _ us hl => match us, hl with | [_, _], _ => rfl
  have m_meeting_of := PySem.W.mg_of X G a13
  have F_lines_of := fun_mk (st := s_lines_of) l14 c14 k14
  have k_lines_of := k14
  have b_lines_of := F_lines_of.binds (ps := ["edge"]) fun _ _ _ _ _ _ us hl => match us, hl with | [_], _ => rfl
  have m_lines_of := PySem.W.mg_of X G a14
  have F_is_bounded := fun_mk (st := s_is_bounded) l15 c15 k15
  have k_is_bounded := k15
  have b_is_bounded := F_is_bounded.binds (ps := ["bend", "lines"]) fun _ _ _ _ _ _ us hl => match us, hl with | [_, _], _ => rfl
  have m_is_bounded := PySem.W.mg_of X G a15
  have F_crossing_of := fun_mk (st := s_crossing_of) l16 c16 k16
  have k_crossing_of := k16
  have b_crossing_of := F_crossing_of.binds (ps := ["steep", "shallow"]) fun _ _ _ _ _ _ us hl => match us, hl with | [_, _], _ => rfl
  have m_crossing_of := PySem.W.mg_of X G a16
  have F_fraction := fun_mk (st := s_fraction) l17 c17 k17
  have k_fraction := k17
  have b_fraction := F_fraction.binds (ps := ["upper", "lower"]) fun _ _ _ _ _ _ us hl => match us, hl with | [_, _], _ => rfl
  have m_fraction := PySem.W.mg_of X G a17
  have F_common_divisor := fun_mk (st := s_common_divisor) l18 c18 k18
  have k_common_divisor := k18
  have b_common_divisor := F_common_divisor.binds (ps := ["one", "other"]) fun _ _ _ _ _ _ us hl => match us, hl with | [_, _], _ => rfl
  have m_common_divisor := PySem.W.mg_of X G a18
  have n_MOST_CORNERS := PySem.W.mg_of X G y0
  have n_MOST_NUMBER := PySem.W.mg_of X G y1
  have n_MOST_LOWER := PySem.W.mg_of X G y2
  have o_range := PySem.W.mg_none_of X G z0
  have o_max := PySem.W.mg_none_of X G z1
  have o_sorted := PySem.W.mg_none_of X G z2
  have o_len := PySem.W.mg_none_of X G z3
  refine ⟨PySem.W.fnOf "talk" "talk" (defArgs s_talk) (defBody s_talk) (defScope s_talk) .none kV0 dc0 pm0 an0 cd0 ct0, fun s us hu => match us, hu with | [_, _, _, _, _, _], _ => .of_eq rfl, fun base _ _ => ?_⟩
  exact ok_talk F_talk (ok_is_left_by_waiting F_is_left_by_waiting n_MOST_LOWER) m_is_left_by_waiting k_is_left_by_waiting b_is_left_by_waiting (ok_refusal_of F_refusal_of (ok_is_count F_is_count n_MOST_CORNERS) m_is_count k_is_count b_is_count (ok_are_worth_a_deal F_are_worth_a_deal o_max n_MOST_NUMBER) m_are_worth_a_deal k_are_worth_a_deal b_are_worth_a_deal (ok_corners_of F_corners_of o_range) m_corners_of k_corners_of b_corners_of) m_refusal_of k_refusal_of b_refusal_of (ok_two_offers F_two_offers (ok_meeting_of F_meeting_of (ok_lines_of F_lines_of (ok_line_through F_line_through) m_line_through k_line_through b_line_through o_range o_len) m_lines_of k_lines_of b_lines_of (ok_is_bounded F_is_bounded) m_is_bounded k_is_bounded b_is_bounded (ok_crossing_of F_crossing_of) m_crossing_of k_crossing_of b_crossing_of) m_meeting_of k_meeting_of b_meeting_of (ok_drawn_larger F_drawn_larger) m_drawn_larger k_drawn_larger b_drawn_larger (ok_fraction F_fraction (ok_common_divisor F_common_divisor) m_common_divisor k_common_divisor b_common_divisor) m_fraction k_fraction b_fraction) m_two_offers k_two_offers b_two_offers (ok_edge_of F_edge_of) m_edge_of k_edge_of b_edge_of (ok_outline_of F_outline_of o_sorted (ok_is_last_needless F_is_last_needless o_len (ok_is_within F_is_within) m_is_within k_is_within b_is_within) m_is_last_needless k_is_last_needless b_is_last_needless) m_outline_of k_outline_of b_outline_of (ok_corners_of F_corners_of o_range) m_corners_of k_corners_of b_corners_of
end Prog

open PySem PySem.W PyProof.Rows
set_option maxRecDepth 100000 in
set_option maxHeartbeats 0 in
theorem PySem.Challenge.cw_agreed_s04_talk_holds : PySem.Challenge.rw_agreed_s04_talk.Holds := by
  w_on; k_headS; (case hw => exact ⟨[.int 0, .int 0, .int 0, .int 0, .int 0, .list []], by decide +kernel, by decide +kernel⟩)
  k_fillS
  refine L2.walk_specK (r := PySem.Challenge.rw_agreed_s04_talk) (k := Prog.topRoom) (CX := L2.CX0) (ps := ["k", "a", "b", "c", "d", "p"]) (sp := Prog.spTop) (by decide +kernel) rfl rfl ⟨rfl, by decide, by decide⟩ (fun w h Y => PySem.W.kIn_of Y) ?F ?S (fun _ _ _ _ z => z)
  case F =>
    intro w mg fa h Y KX G hmg
    refine' Prog.all_mk KX G hmg ?a0 ?l0 ?c0 ?k0 ?a1 ?l1 ?c1 ?k1 ?a2 ?l2 ?c2 ?k2 ?a3 ?l3 ?c3 ?k3 ?a4 ?l4 ?c4 ?k4 ?a5 ?l5 ?c5 ?k5 ?a6 ?l6 ?c6 ?k6 ?a7 ?l7 ?c7 ?k7 ?a8 ?l8 ?c8 ?k8 ?a9 ?l9 ?c9 ?k9 ?a10 ?l10 ?c10 ?k10 ?a11 ?l11 ?c11 ?k11 ?a12 ?l12 ?c12 ?k12 ?a13 ?l13 ?c13 ?k13 ?a14 ?l14 ?c14 ?k14 ?a15 ?l15 ?c15 ?k15 ?a16 ?l16 ?c16 ?k16 ?a17 ?l17 ?c17 ?k17 ?a18 ?l18 ?c18 ?k18 ?y0 ?y1 ?y2 ?z0 ?z1 ?z2 ?z3
    (case a0 => k_is)
    (case l0 => k_is)
    (case c0 => k_is)
    (case k0 => k_is)
    (case a1 => k_is)
    (case l1 => k_is)
    (case c1 => k_is)
    (case k1 => k_is)
    (case a2 => k_is)
    (case l2 => k_is)
    (case c2 => k_is)
    (case k2 => k_is)
    (case a3 => k_is)
    (case l3 => k_is)
    (case c3 => k_is)
    (case k3 => k_is)
    (case a4 => k_is)
    (case l4 => k_is)
    (case c4 => k_is)
    (case k4 => k_is)
    (case a5 => k_is)
    (case l5 => k_is)
    (case c5 => k_is)
    (case k5 => k_is)
    (case a6 => k_is)
    (case l6 => k_is)
    (case c6 => k_is)
    (case k6 => k_is)
    (case a7 => k_is)
    (case l7 => k_is)
    (case c7 => k_is)
    (case k7 => k_is)
    (case a8 => k_is)
    (case l8 => k_is)
    (case c8 => k_is)
    (case k8 => k_is)
    (case a9 => k_is)
    (case l9 => k_is)
    (case c9 => k_is)
    (case k9 => k_is)
    (case a10 => k_is)
    (case l10 => k_is)
    (case c10 => k_is)
    (case k10 => k_is)
    (case a11 => k_is)
    (case l11 => k_is)
    (case c11 => k_is)
    (case k11 => k_is)
    (case a12 => k_is)
    (case l12 => k_is)
    (case c12 => k_is)
    (case k12 => k_is)
    (case a13 => k_is)
    (case l13 => k_is)
    (case c13 => k_is)
    (case k13 => k_is)
    (case a14 => k_is)
    (case l14 => k_is)
    (case c14 => k_is)
    (case k14 => k_is)
    (case a15 => k_is)
    (case l15 => k_is)
    (case c15 => k_is)
    (case k15 => k_is)
    (case a16 => k_is)
    (case l16 => k_is)
    (case c16 => k_is)
    (case k16 => k_is)
    (case a17 => k_is)
    (case l17 => k_is)
    (case c17 => k_is)
    (case k17 => k_is)
    (case a18 => k_is)
    (case l18 => k_is)
    (case c18 => k_is)
    (case k18 => k_is)
    (case y0 => k_is)
    (case y1 => k_is)
    (case y2 => k_is)
    (case z0 => k_is)
    (case z1 => k_is)
    (case z2 => k_is)
    (case z3 => k_is)
  case S =>
    intro K H xs a hO hwi hask hx
    cases hx with
    | cons h0 t0 =>
      cases t0 with
      | cons h1 t1 =>
        cases t1 with
        | cons h2 t2 =>
          cases t2 with
          | cons h3 t3 =>
            cases t3 with
            | cons h4 t4 =>
              cases t4 with
              | cons h5 t5 =>
                cases t5
                cases h0
                cases h1
                cases h2
                cases h3
                cases h4
                cases h5 with
                | lst hs ha =>
                  have e := L2.ints_dw (a.2.2.2.2.2.1) _ ha
                  subst e
                  exact ⟨a.1, a.2.1, a.2.2.1, a.2.2.2.1, a.2.2.2.2.1, _, a.2.2.2.2.2.1, rfl, hs, hask, fun H' p hp => .lst (L2.SqL.of hp) (L2.dw_ints _)⟩
#print axioms PySem.Challenge.cw_agreed_s04_talk_holds
