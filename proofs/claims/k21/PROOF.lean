import PyProof.Rows.All
import Wide.All
import OpenK.AllK
import Wide.FinOn
import Lean
import PyProof.EqAt
import PyProof.EqKinds
import PyProof.TupleCall
import PyProof.NeKinds
import PyProof.DelItemList
import PyProof.StationsW
import PyProof.Rows.Own
import PyProof.RulesDel
import PyProof.RulesAs
import PyProof.ExcBaseAll.ValueError
import KE.KTryMore
import PyProof.ExcArgs
import KE.KIsAll
import PyProof.ListRange
import PyProof.Rows.RuleM_int
import PyProof.Draws
import PyProof.EnumMake
import KE.KDictSum
import KE.KItemsList
import KE.KSortTup
import PyProof.MinMaxWalk
import PyProof.WalkInts
import PyProof.CallTypeRange
import KE.KEqDict
import PyProof.FitsInt
import PySem.Challenge.RW_chipbus_k21_no_such_chip
section
set_option Elab.async false
set_option linter.all false
set_option maxRecDepth 100000
/-! THE HAND LAYER, for ints, bools, texts, own classes, LISTS and tuples (index, slices, in, append, pop ..), calls, loops. Paste it whole ahead of your own text; what your proof does not reach may be deleted. -/
namespace L2
open PySem PySem.Spec PyProof.Rows

/-- a key: an int or a str -/
abbrev Key := Sum Int Str
def keyIs : Key → Value → Bool
  | .inl k, v => Value.isInt k v
  | .inr x, v => Value.isStrOf x v
def keyH (w : World) : Key → Int
  | .inl k => hashInt k
  | .inr x => hashStr w x
theorem keyIs_shape : ∀ {k : Key} {v : Value}, keyIs k v = true → (∃ i t, k = Sum.inl i ∧ v = Value.int i t) ∨ (∃ x t, k = Sum.inr x ∧ v = Value.str x t)
  | .inl i, v, h => by
    obtain ⟨t, e⟩ := Value.isInt_shape (k := i) (v := v) h
    exact .inl ⟨i, t, rfl, e⟩
  | .inr x, v, h => by
    obtain ⟨t, e⟩ := Value.isStrOf_shape (x := x) (v := v) h
    exact .inr ⟨x, t, rfl, e⟩
theorem key_ll (a b : Int) : decide ((Sum.inl a : Key) = Sum.inl b) = (a == b) := by
  by_cases e : a = b
  · subst e; simp
  · have h : ¬ (Sum.inl a : Key) = Sum.inl b := fun q => e (Sum.inl.inj q)
    rw [decide_eq_false h]
    exact (beq_eq_false_iff_ne.mpr e).symm
theorem key_rr (a b : Str) : decide ((Sum.inr a : Key) = Sum.inr b) = decide (a = b) := by
  by_cases e : a = b
  · subst e; simp
  · have h : ¬ (Sum.inr a : Key) = Sum.inr b := fun q => e (Sum.inr.inj q)
    rw [decide_eq_false h, decide_eq_false e]
theorem key_lr (a : Int) (b : Str) : decide ((Sum.inl a : Key) = Sum.inr b) = false := decide_eq_false (fun q => nomatch q)
theorem key_rl (a : Str) (b : Int) : decide ((Sum.inr a : Key) = Sum.inl b) = false := decide_eq_false (fun q => nomatch q)

def mixKind (prog : Program) (w : World) : PySem.KeyKind prog w Key where
  is := keyIs
  hash := keyH w
  inj := fun v a b ha hb => by
    rcases keyIs_shape ha with ⟨i, t, rfl, rfl⟩ | ⟨x, t, rfl, rfl⟩
    · rcases keyIs_shape hb with ⟨j, u, rfl, e⟩ | ⟨y, u, rfl, e⟩
      · injection e with e1 _; rw [e1]
      · exact nomatch e
    · rcases keyIs_shape hb with ⟨j, u, rfl, e⟩ | ⟨y, u, rfl, e⟩
      · exact nomatch e
      · injection e with e1 _; rw [e1]
  byValue := fun k v h => by
    rcases keyIs_shape h with ⟨i, t, rfl, rfl⟩ | ⟨x, t, rfl, rfl⟩ <;> rfl
  pyHash := fun hv h => by
    rcases keyIs_shape hv with ⟨i, t, rfl, rfl⟩ | ⟨x, t, rfl, rfl⟩
    · exact wpAny_pyHash_int h
    · exact wpAny_pyHash_str h
  eqBool := fun hu hv h => by
    rcases keyIs_shape hu with ⟨i, t, rfl, rfl⟩ | ⟨x, t, rfl, rfl⟩
    · rcases keyIs_shape hv with ⟨j, u, rfl, rfl⟩ | ⟨y, u, rfl, rfl⟩
      · rw [key_ll] at h; exact wpAny_eqBool_int h
      · rw [key_lr] at h; exact SeqAt.EqAt.int_str i t y u _ _ _ _ h
    · rcases keyIs_shape hv with ⟨j, u, rfl, rfl⟩ | ⟨y, u, rfl, rfl⟩
      · rw [key_rl] at h; exact SeqAt.EqAt.str_int x t j u _ _ _ _ h
      · rw [key_rr] at h; exact wpAny_eqBool_str h
  «strs» := fun k x t v h => by
    rcases keyIs_shape h with ⟨i, u, rfl, e⟩ | ⟨y, u, rfl, e⟩
    · exact nomatch e
    · injection e with e1 _
      subst e1
      cases v <;> rfl

end L2

namespace L2
open PySem PySem.Spec PyProof.Rows

/-- a value, without the heap -/
inductive V where
  | non | bl (b : Bool) | int (i : Int) | str (x : Str) | byt (b : Array UInt8) | flt (b : UInt64) | ref (a : Addr) | ty (n : String)
  deriving DecidableEq

def RelV : V → Value → Prop
  | .non, u => u = Value.none
  | .bl b, u => u = Value.bool b
  | .int i, u => ∃ t, u = Value.int i t
  | .str x, u => ∃ t, u = Value.str x t
  | .byt b, u => ∃ t, u = Value.bytes b t
  | .flt b, u => ∃ t, u = Value.float b t
  | .ref a, u => u = Value.ref a
  | .ty n, u => u = Value.type n

abbrev Vals : List V → List Value → Prop := Paired RelV
theorem Vals.length {xs : List V} {us : List Value} (r : Vals xs us) : xs.length = us.length := Paired.length r
theorem Vals.get : ∀ {xs : List V} {us : List Value} {i : Nat} {x : V}, Vals xs us → xs[i]? = some x → ∃ u, us[i]? = some u ∧ RelV x u
  | _, _, _, _, .nil, e => by simp at e
  | _, _, 0, _, .cons r _, e => by simp at e; subst e; exact ⟨_, rfl, r⟩
  | _, _, i + 1, x, .cons _ t, e => by
    obtain ⟨u, h1, h2⟩ := Vals.get (i := i) (x := x) t (by simpa using e)
    exact ⟨u, by simpa using h1, h2⟩
theorem Vals.set {x : V} {u : Value} (r : RelV x u) : ∀ {xs : List V} {us : List Value} (i : Nat), Vals xs us → Vals (xs.set i x) (us.set i u)
  | _, _, _, .nil => .nil
  | _, _, 0, .cons _ t => .cons r t
  | _, _, i + 1, .cons q t => .cons q (Vals.set r i t)
theorem Vals.append : ∀ {xs ys : List V} {us ws : List Value}, Vals xs us → Vals ys ws → Vals (xs ++ ys) (us ++ ws)
  | _, _, _, _, .nil, s => s
  | _, _, _, _, .cons r t, s => .cons r (Vals.append t s)
theorem Vals.take : ∀ {xs : List V} {us : List Value} (n : Nat), Vals xs us → Vals (xs.take n) (us.take n)
  | _, _, 0, _ => .nil
  | _, _, _ + 1, .nil => .nil
  | _, _, n + 1, .cons r t => .cons r (Vals.take n t)
theorem Vals.drop : ∀ {xs : List V} {us : List Value} (n : Nat), Vals xs us → Vals (xs.drop n) (us.drop n)
  | _, _, 0, r => r
  | _, _, _ + 1, .nil => .nil
  | _, _, n + 1, .cons _ t => Vals.drop n t
def RelO : Option V → Option Value → Prop
  | some v, some u => RelV v u
  | none, none => True
  | _, _ => False
def KV {κ : Type} : List (κ × V) → List (κ × Value) → Prop := Paired fun (p : κ × V) (q : κ × Value) => p.1 = q.1 ∧ RelV p.2 q.2

/-- a key of a dict (00_mix): an int or a text -/
def kV : Key → V
  | .inl i => .int i
  | .inr x => .str x

/-- what stands at a tracked address -/
inductive HO where
  /-- a list -/
  | lst (xs : List V)
  /-- a tuple (never changes) -/
  | tup (xs : List V)
  /-- a dict whose keys are ints and texts; one whose keys are tuples of ints and texts (the empty one is both) -/
  | dK (kvs : List (Key × V)) | dT (kvs : List (List Key × V))
  /-- a set of ints: its members, its size -/
  | set (S : Int → Bool) (n : Nat)
  /-- an instance of the class at C, its dict at dx, its attributes -/
  | ins (C dx : Addr) (fs : List (Str × V))
  /-- the dict of the instance at x -/
  | own (x : Addr)
  /-- the dict of an exception -/
  | xd (fs : List (Str × V))
  /-- a bound method, f of x -/
  | met (f x : Addr)
  /-- a range object lo, lo + 1, .. below hi -/
  | rng (lo hi : Int)
  /-- a thing that is known to the object (the script; a dict while a loop walks it): read, never written while it is so -/
  | frz (o : Obj) (u : HO)
  /-- a code object's table -/
  | tbl (ps : Array Value)
  /-- any other thing, by what is true of its one object (a def of one's own: SetO a S n := HO.ext fun h => ..) -/
  | ext (φ : Heap → Prop)

abbrev Hp := Addr → Option HO
def upd (H : Hp) (a : Addr) (o : HO) : Hp := fun b => if b = a then some o else H b
theorem upd_same {H : Hp} {a : Addr} {o : HO} : upd H a o a = some o := by unfold upd; rw [if_pos rfl]
theorem upd_ne {H : Hp} {a b : Addr} {o : HO} (h : b ≠ a) : upd H a o b = H b := by unfold upd; rw [if_neg h]
theorem ne_of_none {H : Hp} {a b : Addr} {o : HO} (h : H a = some o) (h' : H b = none) : a ≠ b := by
  intro e; subst e; rw [h] at h'; cases h'

section
variable (P : Program) (w : World)
def ObjOk (H : Hp) (h : Heap) (a : Addr) : HO → Prop
  | .lst xs => xs.length ≤ sizeLine ∧ ∃ (its : List Value) (n : Nat), Vals xs its ∧ h.get? a = some { cls := .type "list", data := .seq its.toArray n }
  | .tup xs => xs.length ≤ sizeLine ∧ ∃ its : List Value, Vals xs its ∧ IsTup h a its.toArray
  | .dK kvs => kvs.length ≤ sizeLine ∧ (a == sysModules) = false ∧ ∃ vs, KV kvs vs ∧ h.DictOf (mixKind P w) a vs
  | .dT kvs => kvs.length ≤ sizeLine ∧ (a == sysModules) = false ∧ ∃ xs : List (List Key × Addr × Value),
      Paired (fun (p : List Key × V) (q : List Key × Addr × Value) => p.1 = q.1 ∧ H q.2.1 = some (.tup (p.1.map kV)) ∧ RelV p.2 q.2.2) kvs xs ∧
      ∃ o es ep, h.get? a = some o ∧ o.ExactDict ∧ o.data = .dict es ep ∧ es.toList = xs.map (entryOfKey (tupleKind (mixKind P w))) ∧ (xs.map (·.1)).Nodup
  | .set S n => h.SetOf (intKind P w) a S n
  | .ins C dx fs => H dx = some (.own a) ∧ fs.length ≤ 1000 ∧ dx ≠ a ∧ h.get? a = some (PySem.W.instObj C dx) ∧
      ∃ mA, h.Ns1 dx mA ∧ (∀ f, RelO (fs.lookup f) (mA f)) ∧ PySem.Within mA (fs.map (·.1))
  | .own _ => ∃ o, h.get? a = some o
  | .xd fs => ∃ mA, h.Ns1 a mA ∧ ∀ f, RelO (fs.lookup f) (mA f)
  | .rng lo hi => ∃ t u v, h.get? a = some { cls := .type "range", data := .fields #[.int lo t, .int hi u, .int 1 v] }
  | .frz o u => h.get? a = some o ∧ ObjOk H h a u
  | .tbl ps => h.get? a = some { cls := .none, data := .fields ps }
  | .met f x => h.get? a = some (PySem.W.methodObj (.ref f) (.ref x))
  | .ext φ => φ h ∧ (∃ o, h.get? a = some o) ∧ ∀ h1 h2 : Heap, φ h1 → (∀ o, h1.get? a = some o → h2.get? a = some o) → φ h2
/-- the abstract heap is held -/
def HOk (H : Hp) (h : Heap) : Prop := ∀ a o, H a = some o → ObjOk P w H h a o
end

section
variable {P : Program} {w : World} {H H' : Hp} {h h' : Heap} {a : Addr} {o : HO}
theorem ObjOk.lt (x : ObjOk P w H h a o) : a < h.objs.size := by
  cases o with
  | lst xs => obtain ⟨_, _, _, _, e⟩ := x; exact Heap.lt_size e
  | tup xs => obtain ⟨_, _, _, p⟩ := x; exact p.lt
  | dK kvs => obtain ⟨_, _, _, _, o, _, _, e, _⟩ := x; exact Heap.lt_size e
  | dT kvs => obtain ⟨_, _, _, _, o, _, _, e, _⟩ := x; exact Heap.lt_size e
  | set S n => obtain ⟨o, _, _, _, e, _⟩ := x; exact Heap.lt_size e
  | ins C dx fs => obtain ⟨_, _, _, e, _⟩ := x; exact Heap.lt_size e
  | own y => obtain ⟨_, e⟩ := x; exact Heap.lt_size e
  | xd fs => obtain ⟨_, ⟨_, _, _, e, _⟩, _⟩ := x; exact Heap.lt_size e
  | rng lo hi => obtain ⟨_, _, _, e⟩ := x; exact Heap.lt_size e
  | frz ob u => obtain ⟨e, _⟩ := x; exact Heap.lt_size e
  | tbl ps => exact Heap.lt_size (show h.get? a = some _ from x)
  | met f y => exact Heap.lt_size (show h.get? a = some _ from x)
  | ext φ => obtain ⟨_, ⟨_, e⟩, _⟩ := x; exact Heap.lt_size e
theorem Paired.mapP {α β : Type} {F G : α → β → Prop} : ∀ {l₁ : List α} {l₂ : List β}, Paired F l₁ l₂ → (∀ a b, F a b → G a b) → Paired G l₁ l₂
  | _, _, .nil, _ => .nil
  | _, _, .cons r t, f => .cons (f _ _ r) (Paired.mapP t f)
/-- what an object's description leans on: its own object, its own dict, the tuples -/
theorem ObjOk.stay (x : ObjOk P w H h a o) (k : ∀ b u, (b = a ∨ H b = some (.own a)) → h.get? b = some u → h'.get? b = some u)
    (ho : ∀ b, H b = some (.own a) → H' b = some (.own a)) (ht : ∀ b xs, H b = some (.tup xs) → H' b = some (.tup xs)) : ObjOk P w H' h' a o := by
  induction o with
  | lst xs => obtain ⟨z, its, n, r, e⟩ := x; exact ⟨z, its, n, r, k _ _ (.inl rfl) e⟩
  | tup xs => obtain ⟨z, its, r, ob, e, c⟩ := x; exact ⟨z, its, r, ob, k _ _ (.inl rfl) e, c⟩
  | dK kvs => obtain ⟨z, y, vs, r, ob, es, ep, e, c⟩ := x; exact ⟨z, y, vs, r, ob, es, ep, k _ _ (.inl rfl) e, c⟩
  | dT kvs =>
    obtain ⟨z, y, xs, r, ob, es, ep, e, c⟩ := x
    exact ⟨z, y, xs, Paired.mapP r fun p q z => ⟨z.1, ht _ _ z.2.1, z.2.2⟩, ob, es, ep, k _ _ (.inl rfl) e, c⟩
  | set S n => obtain ⟨ob, es, ep, t, e, c⟩ := x; exact ⟨ob, es, ep, t, k _ _ (.inl rfl) e, c⟩
  | ins C dx fs =>
    obtain ⟨d, z, ne, e, mA, ⟨od, es, ep, e2, c⟩, r⟩ := x
    exact ⟨ho _ d, z, ne, k _ _ (.inl rfl) e, mA, ⟨od, es, ep, k _ _ (.inr d) e2, c⟩, r⟩
  | own y => obtain ⟨ob, e⟩ := x; exact ⟨ob, k _ _ (.inl rfl) e⟩
  | xd fs => obtain ⟨mA, ⟨od, es, ep, e, c⟩, r⟩ := x; exact ⟨mA, ⟨od, es, ep, k _ _ (.inl rfl) e, c⟩, r⟩
  | rng lo hi => obtain ⟨t, u, v, e⟩ := x; exact ⟨t, u, v, k _ _ (.inl rfl) e⟩
  | frz ob u ih => obtain ⟨e, q⟩ := x; exact ⟨k _ _ (.inl rfl) e, ih q⟩
  | tbl ps =>
    have e : h.get? a = some { cls := .none, data := .fields ps } := x
    show h'.get? a = some { cls := .none, data := .fields ps }
    exact k a _ (.inl rfl) e
  | met f y =>
    have e : h.get? a = some (PySem.W.methodObj (.ref f) (.ref y)) := x
    show h'.get? a = some (PySem.W.methodObj (.ref f) (.ref y))
    exact k a _ (.inl rfl) e
  | ext φ => obtain ⟨p, ⟨o, e⟩, st⟩ := x; exact ⟨st _ _ p fun o q => k _ _ (.inl rfl) q, ⟨o, k _ _ (.inl rfl) e⟩, st⟩
theorem HOk.lt (x : HOk P w H h) (e : H a = some o) : a < h.objs.size := (x a o e).lt
theorem HOk.fresh (x : HOk P w H h) (e : h.objs.size ≤ a) : H a = none := by
  cases q : H a with
  | none => rfl
  | some u => exact absurd (Nat.lt_of_lt_of_le (x.lt q) e) (Nat.lt_irrefl _)
/-- every object of the heap is kept -/
theorem HOk.kept (x : HOk P w H h) (k : ∀ b u, h.get? b = some u → h'.get? b = some u) : HOk P w H h' := fun a o e =>
  (x a o e).stay (fun b u _ q => k b u q) (fun _ q => q) fun _ _ q => q
/-- a new object is laid and tracked -/
theorem HOk.laid (x : HOk P w H h) (k : ∀ b u, h.get? b = some u → h'.get? b = some u) (hp : h.objs.size ≤ a) (new : ObjOk P w (upd H a o) h' a o) : HOk P w (upd H a o) h' := fun b u e => by
  have hn := x.fresh hp
  by_cases hb : b = a
  · subst hb; rw [upd_same] at e; cases e; exact new
  · rw [upd_ne hb] at e
    exact (x b u e).stay (fun c v _ q => k c v q) (fun c q => by rw [upd_ne (ne_of_none q hn)]; exact q) fun c xs q => by rw [upd_ne (ne_of_none q hn)]; exact q
end

/-- what may be read as u: it is u, or a known u -/
def Rd (H : Hp) (a : Addr) (u : HO) : Prop := H a = some u ∨ ∃ o, H a = some (.frz o u)
theorem Rd.ok {P : Program} {w : World} {H : Hp} {h : Heap} {a : Addr} {u : HO} (r : Rd H a u) (x : HOk P w H h) : ObjOk P w H h a u := by
  rcases r with r | ⟨o, r⟩
  · exact x a u r
  · obtain ⟨_, q⟩ := x a _ r
    exact q
/-- what may be written -/
def Mut : Option HO → Prop
  | some (.lst _) => True
  | some (.dK _) => True
  | some (.dT _) => True
  | some (.set _ _) => True
  | some (.ins _ _ _) => True
  | some (.ext _) => True
  | _ => False
section
variable {P : Program} {w : World} {H : Hp} {h h' : Heap} {x e : Addr} {o' : HO}
/-- the object at e is changed: x itself, or the dict of the instance x -/
theorem HOk.write (ok : HOk P w H h) (mu : Mut (H x)) (he : e = x ∨ H e = some (.own x)) (k : ∀ b u, b ≠ e → h.get? b = some u → h'.get? b = some u) (heo : ∃ u, h'.get? e = some u)
    (new : ObjOk P w (upd H x o') h' x o') : HOk P w (upd H x o') h' := fun b u q => by
  have nown : ∀ c y, H c = some (.own y) → c ≠ x := fun c y r z => by subst z; rw [r] at mu; exact mu
  have ntup : ∀ c xs, H c = some (.tup xs) → c ≠ x := fun c xs r z => by subst z; rw [r] at mu; exact mu
  by_cases hb : b = x
  · subst hb; rw [upd_same] at q; cases q; exact new
  · rw [upd_ne hb] at q
    by_cases hbe : b = e
    · have q' : H b = some (.own x) := by
        rcases he with z | z
        · exact absurd (hbe.trans z) hb
        · rw [hbe]; exact z
      rw [q] at q'; cases q'
      obtain ⟨v, hv⟩ := heo
      exact ⟨v, by rw [hbe]; exact hv⟩
    · refine (ok b u q).stay (fun c v hc r => k c v ?_ r) (fun c r => by rw [upd_ne (nown c b r)]; exact r) fun c xs r => by rw [upd_ne (ntup c xs r)]; exact r
      rcases hc with rfl | hc
      · exact hbe
      · rintro rfl
        rcases he with z | z
        · exact nown c b hc z
        · rw [hc] at z; cases z; exact hb rfl
end

/-! ### kept unless tracked; of the frames at fs (the callers') the slots may change (an exception that passes writes there); of the records at ex (iterators) nothing is said -/
structure Un (fs ex : List Addr) (H H' : Hp) (h h' : Heap) : Prop where
  keep : ∀ b o, h.get? b = some o → H b = none → b ∉ fs → b ∉ ex → h'.get? b = some o
  slot : ∀ b o, h.get? b = some o → H b = none → b ∈ fs → b ∉ ex → ∃ sl, h'.get? b = some { o with slots := sl }
  free : ∀ b o, h.get? b = some o → H b = none → b ∉ ex → H' b = none
  there : ∀ b o, h.get? b = some o → b ∉ ex → ∃ o', h'.get? b = some o'
  tups : ∀ b xs, H b = some (.tup xs) → H' b = some (.tup xs)
  frzs : ∀ b o u, H b = some (.frz o u) → H' b = some (.frz o u)
  tbls : ∀ b ps, H b = some (.tbl ps) → ∃ more, H' b = some (.tbl (ps ++ more))
section
variable {fs fs' ex ex' : List Addr} {H H1 H2 : Hp} {h h1 h2 h' : Heap} {a x e : Addr} {o : HO}
theorem Un.any (u : Un fs ex H H1 h h1) {b : Addr} {ob : Obj} (q : h.get? b = some ob) (n : H b = none) (hx : b ∉ ex) : ∃ sl, h1.get? b = some { ob with slots := sl } := by
  by_cases hb : b ∈ fs
  · exact u.slot b ob q n hb hx
  · exact ⟨ob.slots, u.keep b ob q n hb hx⟩
theorem Un.kept (k : ∀ b u, h.get? b = some u → h'.get? b = some u) : Un fs ex H H h h' :=
  ⟨fun b ob q _ _ _ => k b ob q, fun b ob q _ _ _ => ⟨ob.slots, k b ob q⟩, fun _ _ _ n _ => n, fun b ob q _ => ⟨ob, k b ob q⟩, fun _ _ q => q, fun _ _ _ q => q, fun _ ps q => ⟨#[], by rw [q]; simp⟩⟩
theorem Un.refl : Un fs ex H H h h := Un.kept fun _ _ q => q
theorem Un.laid (k : ∀ b u, h.get? b = some u → h'.get? b = some u) (hp : h.objs.size ≤ a) (hn : H a = none) : Un fs ex H (upd H a o) h h' where
  keep := fun b u q _ _ _ => k b u q
  slot := fun b u q _ _ _ => ⟨u.slots, k b u q⟩
  free := fun b u q n _ => by rw [upd_ne (Nat.ne_of_lt (Nat.lt_of_lt_of_le (Heap.lt_size q) hp))]; exact n
  there := fun b u q _ => ⟨u, k b u q⟩
  tups := fun b xs q => by rw [upd_ne (ne_of_none q hn)]; exact q
  frzs := fun b u xs q => by rw [upd_ne (ne_of_none q hn)]; exact q
  tbls := fun b ps q => ⟨#[], by rw [upd_ne (ne_of_none q hn), q]; simp⟩
theorem Un.write (mu : Mut (H x)) (he : e = x ∨ H e = some (.own x)) (k : ∀ b u, b ≠ e → h.get? b = some u → h'.get? b = some u) (heo : ∃ u, h'.get? e = some u) : Un fs ex H (upd H x o) h h' := by
  have hx : ∀ b, H b = none → b ≠ x := fun b n z => by subst z; rw [n] at mu; exact mu
  have hb : ∀ b, H b = none → b ≠ e := fun b n z => by
    subst z
    rcases he with r | r
    · exact hx b n r
    · rw [n] at r; cases r
  have hm : ∀ b u, H b = some u → ¬ Mut (some u) → b ≠ x := fun b u q nm z => by subst z; rw [q] at mu; exact nm mu
  refine ⟨fun b u q n _ _ => k b u (hb b n) q, fun b u q n _ _ => ⟨u.slots, k b u (hb b n) q⟩, fun b u q n _ => by rw [upd_ne (hx b n)]; exact n, fun b u q _ => ?_,
    fun b xs q => by rw [upd_ne (hm b _ q fun z => z)]; exact q, fun b u xs q => by rw [upd_ne (hm b _ q fun z => z)]; exact q, fun b ps q => ⟨#[], by rw [upd_ne (hm b _ q fun z => z), q]; simp⟩⟩
  by_cases hbe : b = e
  · subst hbe; exact heo
  · exact ⟨u, k b u hbe q⟩
end

/-! ### the heap without what is tracked -/
def trk (h : Heap) (H : Hp) : List Addr := (List.range h.objs.size).filter fun a => (H a).isSome
def hidT (h : Heap) (H : Hp) : Heap := PySem.W.hideAll h (trk h H)
theorem hidT_size (h : Heap) (H : Hp) : (hidT h H).objs.size = h.objs.size := PySem.W.hideAll_size _ _
theorem hidT_get {h : Heap} {H : Hp} {b : Addr} {o : Obj} (e : h.get? b = some o) (n : H b = none) : (hidT h H).get? b = some o :=
  PySem.W.hideAll_get _ e fun hm => by
    have q : (H b).isSome = true := (List.mem_filter.mp hm).2
    rw [n] at q; simp at q
theorem of_hidT {h : Heap} {H : Hp} {b : Addr} {o : Obj} (e : (hidT h H).get? b = some o) : h.get? b = some o ∧ H b = none := by
  have e' : h.get? b = some o := PySem.W.of_hideAll (trk h H) e
  refine ⟨e', ?_⟩
  cases q : H b with
  | none => rfl
  | some x =>
    have hm : b ∈ trk h H := List.mem_filter.mpr ⟨List.mem_range.mpr (Heap.lt_size e'), by simp [q]⟩
    have z : (hidT h H).get? b = none := PySem.W.hideAll_none (trk h H) hm
    rw [z] at e; cases e

/-! ### OpenK's ledger, filled with every new object but one -/
def allNews (g h : Heap) (L : Addr) : List (Addr × Obj) := (List.range h.objs.size).filterMap fun a => if a = L ∨ (g.get? a).isSome = true then none else (h.get? a).map fun o => (a, o)
def rest (g h : Heap) (L d : Addr) : List (Addr × Obj) := (allNews g h L).filter fun p => decide (p.1 ≠ d)
end L2

namespace L2
open PySem PySem.Spec PyProof.Rows

/-- the module's facts, over the base: the heap at the law's entry without what is tracked there -/
structure Mod (K : PySem.W.Frag) (mg : Str → Option Value) (base : Heap) : Prop where
  kin : K.In base
  glob : base.Ns mainGlobals mg
  blt : ∃ mb, base.Ns builtinsNs mb ∧ ∀ x : Str, x ≠ "__name__" → mb x = bootBuiltins x
  nolimit : base.NoLimit

/-- the context: a def's body (or a comprehension's block) running. base: fixed through the whole law; s₀, H₀: the entry; outer: the frames whose slots others may change (a def's callers); stack: all frames that run;
   ex: iterators that were made ahead of the entry and are walked here (a comprehension's); fn: the names whose cells were made at the entry (a def: all; a comprehension's block: its own); calm: not within an except suite; pn: pins that every state bears; xe: what is wanted of an exception that leaves the code -/
structure Cx where
  prog : Program
  w : World
  K : PySem.W.Frag
  mg : Str → Option Value
  base : Heap
  A : Around
  N : List Str
  s₀ : Shared
  H₀ : Hp
  env : Env
  outer : List Env
  stack : List Env
  ex : List Addr
  fn : Str → Bool
  calm : Bool
  pn : List (Addr × Obj)
  xe : Value → Shared → Prop
/-- the callers' frames -/
def frs (l : List Env) : List Addr := l.filterMap (·.frame)
abbrev Cx.fs (X : Cx) : List Addr := frs X.outer

def Vis (sc : Scope) (x : Str) : Prop := sc.names.lookup x = some .local ∨ sc.names.lookup x = some .cell ∨ sc.names.lookup x = some .free
def Loc (sc : Scope) (x : Str) : Prop := sc.names.lookup x = some .local ∨ sc.names.lookup x = some .cell
def Look (env : Env) (h : Heap) (m : Str → Option Value) (x : Str) (u : Value) : Prop :=
  (env.kindOf x = some .local ∧ m x = some u) ∨ ((env.kindOf x = some .cell ∨ env.kindOf x = some .free) ∧ ∃ c, env.cells.lookup x = some c ∧ h.IsCell c (some u))

structure Cx.Ok (X : Cx) : Prop where
  mod : Mod X.K X.mg X.base
  kind : X.env.scope.kind = .function
  glob : X.env.globals = mainGlobals
  blt : X.env.builtins = builtinsNs
  above : X.s₀.heap.objs.size ≤ X.env.locals
  inj : ∀ x y c, X.env.cells.lookup x = some c → X.env.cells.lookup y = some c → x = y
  has : ∀ x, (X.env.kindOf x = some .cell ∨ X.env.kindOf x = some .free) → ∃ c, X.env.cells.lookup x = some c
  cab : ∀ x c, X.fn x = true → X.env.cells.lookup x = some c → X.s₀.heap.objs.size ≤ c
  hd : X.calm = true → X.A.handled = none
  frames : X.A.frames = some X.stack
  stk : X.stack = X.outer ∨ (X.stack = X.env :: X.outer ∧ X.env.frame = some X.env.locals)
  exf : ∀ b ∈ X.ex, b ≠ X.env.locals ∧ ∀ x c, X.env.cells.lookup x = some c → c ≠ b
  bs : ∀ b o, X.base.get? b = some o → X.s₀.heap.get? b = some o ∧ X.H₀ b = none
  bsz : X.base.objs.size ≤ X.s₀.heap.objs.size
  noex : ∀ b o, X.base.get? b = some o → b ∉ X.ex
  exfs : ∀ b ∈ X.ex, b ∉ X.fs
  funs : X.s₀.heap.FunFrames X.base X.outer
  frf : ∀ b ∈ X.fs, X.H₀ b = none

structure Inv (X : Cx) (pins : List (Addr × Obj)) (σ : List (Option V)) (H : Hp) (s : Shared) : Prop where
  ok : X.Ok
  os : s.os = X.s₀.os
  bare : AllBare s.gens
  base : Un X.fs X.ex X.H₀ H X.s₀.heap s.heap
  loc : ∃ m, s.heap.Ns X.env.locals m ∧ ∀ (i : Nat) (x : Str) (v : V), X.N[i]? = some x → σ[i]? = some (some v) → Vis X.env.scope x → ∃ u, RelV v u ∧ Look X.env s.heap m x u
  cell : ∀ x c, X.env.cells.lookup x = some c → ∃ v, s.heap.IsCell c v
  free : H X.env.locals = none
  freeC : ∀ x c, X.env.cells.lookup x = some c → H c = none
  pin : ∀ p ∈ X.pn ++ pins, s.heap.get? p.1 = some p.2 ∧ H p.1 = none ∧ p.1 ≠ X.env.locals ∧ p.1 ∉ X.fs ∧ ∀ v, p.2.data ≠ .cell v
  hok : HOk X.prog X.w H s.heap
  len : σ.length = X.N.length

section
variable {X : Cx} {pins : List (Addr × Obj)} {σ : List (Option V)} {H H' : Hp} {s : Shared} {h' : Heap}

theorem Cx.Ok.nofr (ok : X.Ok) {b : Addr} {o : Obj} (e : X.base.get? b = some o) : b ∉ X.fs := fun hb => by
  have := (ok.funs.mem hb).1
  rw [e] at this; cases this
theorem Inv.bs (I : Inv X pins σ H s) : ∀ b o, X.base.get? b = some o → s.heap.get? b = some o ∧ H b = none := fun b o e =>
  ⟨I.base.keep b o (I.ok.bs b o e).1 (I.ok.bs b o e).2 (I.ok.nofr e) (I.ok.noex b o e), I.base.free b o (I.ok.bs b o e).1 (I.ok.bs b o e).2 (I.ok.noex b o e)⟩
theorem Inv.bk (I : Inv X pins σ H s) : ∀ b o, X.base.get? b = some o → s.heap.get? b = some o := fun b o e => (I.bs b o e).1
theorem Inv.mod (I : Inv X pins σ H s) : Mod X.K X.mg X.base := I.ok.mod
theorem Inv.kIn (I : Inv X pins σ H s) : X.K.In s.heap := I.ok.mod.kin.keeps I.bk
theorem Inv.lt (I : Inv X pins σ H s) : X.env.locals < s.heap.objs.size := let ⟨_, hn, _⟩ := I.loc; hn.lt
theorem Inv.sz (I : Inv X pins σ H s) : X.s₀.heap.objs.size ≤ s.heap.objs.size := Nat.le_trans I.ok.above (Nat.le_of_lt I.lt)
theorem Inv.nofs (I : Inv X pins σ H s) {a : Addr} (h : s.heap.objs.size ≤ a) : a ∉ X.fs := fun hb => by
  obtain ⟨_, o, ho, _⟩ := I.ok.funs.mem hb
  exact absurd (Nat.lt_of_lt_of_le (Heap.lt_size ho) (Nat.le_trans I.sz h)) (Nat.lt_irrefl _)
theorem Inv.cne (I : Inv X pins σ H s) : ∀ x c, X.env.cells.lookup x = some c → c ≠ X.env.locals := fun x c e z => by
  obtain ⟨v, o, ho, hd⟩ := I.cell x c e
  obtain ⟨m, ⟨o', es, ep, ho', hd', _⟩, _⟩ := I.loc
  rw [z, ho'] at ho; cases ho; rw [hd'] at hd; cases hd
theorem Inv.funs (I : Inv X pins σ H s) : s.heap.FunFrames X.base X.outer := by
  have all : ∀ (l : List Env), (∀ b ∈ frs l, b ∈ X.fs) → X.s₀.heap.FunFrames X.base l → s.heap.FunFrames X.base l := by
    intro l
    induction l with
    | nil => intro _ _; trivial
    | cons env r ih =>
      intro hs hl
      obtain ⟨hk, ⟨L, o, hf, hn, ho, hd⟩, hr⟩ := hl
      have hL : L ∈ X.fs := hs L (by unfold frs; rw [List.filterMap_cons, hf]; exact List.mem_cons_self)
      obtain ⟨sl, e⟩ := I.base.slot L o ho (I.ok.frf L hL) hL fun z => I.ok.exfs L z hL
      exact ⟨hk, ⟨L, _, hf, hn, e, hd⟩, ih (fun b hb => hs b (by unfold frs; rw [List.filterMap_cons, hf]; exact List.mem_cons_of_mem _ hb)) hr⟩
  exact all X.outer (fun _ hb => hb) I.ok.funs

/-- the frames that run, for a call -/
theorem Inv.stack (I : Inv X pins σ H s) : s.heap.FunFrames X.base X.stack := by
  rcases I.ok.stk with e | ⟨e, hf⟩
  · rw [e]; exact I.funs
  · rw [e]
    obtain ⟨m, hn, _⟩ := I.loc
    refine .cons (by rw [I.ok.kind]; decide) hf hn ?_ I.funs
    exact Heap.get?_none_of_le (Nat.le_trans I.ok.bsz I.ok.above)
theorem Inv.stkSub (I : Inv X pins σ H s) : ∀ b ∈ frs X.stack, b ∈ X.env.locals :: X.fs := fun b hb => by
  rcases I.ok.stk with e | ⟨e, hf⟩
  · rw [e] at hb; exact List.mem_cons_of_mem _ hb
  · rw [e] at hb
    unfold frs at hb
    rw [List.filterMap_cons, hf] at hb
    exact hb
theorem Inv.stkFree (I : Inv X pins σ H s) : ∀ b ∈ frs X.stack, H b = none := fun b hb => by
  rcases List.mem_cons.mp (I.stkSub b hb) with e | hb
  · rw [e]; exact I.free
  · obtain ⟨_, o, ho, _⟩ := I.ok.funs.mem hb
    exact I.base.free b o ho (I.ok.frf b hb) fun z => I.ok.exfs b z hb

/-- THE STEP: the untracked objects but the frame and the records at ch are kept (the callers' frames up to slots), the frame's map is kept, the new abstract heap is held -/
theorem Inv.step {g' : Array GenState} {t' : Nat} {d' : Drawn} {ch : List Addr} (I : Inv X pins σ H s)
    (hch : ∀ b ∈ ch, (b ∈ X.ex ∨ X.s₀.heap.objs.size ≤ b) ∧ b ≠ X.env.locals ∧ (∀ x c, X.env.cells.lookup x = some c → c ≠ b) ∧ ∀ p ∈ X.pn ++ pins, p.1 ≠ b)
    (keep : ∀ b o, b ≠ X.env.locals → b ∉ X.fs → b ∉ ch → s.heap.get? b = some o → H b = none → h'.get? b = some o)
    (slot : ∀ b o, b ≠ X.env.locals → b ∈ X.fs → b ∉ ch → s.heap.get? b = some o → H b = none → ∃ sl, h'.get? b = some { o with slots := sl }) (free : ∀ b o, b ∉ ch → s.heap.get? b = some o → H b = none → H' b = none)
    (there : ∀ b o, b ∉ ch → s.heap.get? b = some o → ∃ o', h'.get? b = some o')
    (tups : ∀ b xs, H b = some (.tup xs) → H' b = some (.tup xs)) (frzs : ∀ b o u, H b = some (.frz o u) → H' b = some (.frz o u)) (tbls : ∀ b ps, H b = some (.tbl ps) → ∃ more, H' b = some (.tbl (ps ++ more)))
    (ns : ∀ m, s.heap.Ns X.env.locals m → h'.Ns X.env.locals m) (hok : HOk X.prog X.w H' h') (hg : AllBare g') :
    Inv X pins σ H' { s with heap := h', gens := g', drawn := d', toks := t' } := by
  have neL : ∀ b o, X.s₀.heap.get? b = some o → b ≠ X.env.locals := fun b o e => Nat.ne_of_lt (Nat.lt_of_lt_of_le (Heap.lt_size e) I.ok.above)
  have neC : ∀ b o, X.s₀.heap.get? b = some o → b ∉ X.ex → b ∉ ch := fun b o e hx hb => by
    rcases (hch b hb).1 with z | z
    · exact hx z
    · exact absurd (Nat.lt_of_lt_of_le (Heap.lt_size e) z) (Nat.lt_irrefl _)
  have cellK : ∀ x c, X.env.cells.lookup x = some c → ∀ v, s.heap.IsCell c v → h'.IsCell c v := fun x c e v ⟨o, ho, hd⟩ => by
    have nch : c ∉ ch := fun z => (hch c z).2.2.1 x c e rfl
    by_cases hc : c ∈ X.fs
    · obtain ⟨sl, q⟩ := slot c o (I.cne x c e) hc nch ho (I.freeC x c e)
      exact ⟨_, q, hd⟩
    · exact ⟨o, keep c o (I.cne x c e) hc nch ho (I.freeC x c e), hd⟩
  refine ⟨I.ok, I.os, hg, ⟨fun b o e n hb hx => ?_, fun b o e n hb hx => ?_, fun b o e n hx => ?_, fun b o e hx => ?_, fun b xs e => tups b xs (I.base.tups b xs e), fun b o xs e => frzs b o xs (I.base.frzs b o xs e), fun b ps e => ?_⟩, ?_, fun x c e => ?_, ?_, fun x c e => ?_, fun p hp => ?_, hok, I.len⟩
  · exact keep b o (neL b o e) hb (neC b o e hx) (I.base.keep b o e n hb hx) (I.base.free b o e n hx)
  · obtain ⟨sl, e1⟩ := I.base.slot b o e n hb hx
    obtain ⟨sl', e2⟩ := slot b _ (neL b o e) hb (neC b o e hx) e1 (I.base.free b o e n hx)
    exact ⟨sl', e2⟩
  · obtain ⟨o', e1⟩ := I.base.there b o e hx
    exact free b o' (neC b o e hx) e1 (I.base.free b o e n hx)
  · obtain ⟨o', e1⟩ := I.base.there b o e hx
    exact there b o' (neC b o e hx) e1
  · obtain ⟨m1, e1⟩ := I.base.tbls b ps e
    obtain ⟨m2, e2⟩ := tbls b _ e1
    exact ⟨m1 ++ m2, by rw [e2, Array.append_assoc]⟩
  · obtain ⟨m, hn, hl⟩ := I.loc
    refine ⟨m, ns m hn, fun i x v e1 e2 e3 => ?_⟩
    obtain ⟨u, r, l⟩ := hl i x v e1 e2 e3
    refine ⟨u, r, ?_⟩
    rcases l with l | ⟨k, c, e, z⟩
    · exact .inl l
    · exact .inr ⟨k, c, e, cellK x c e _ z⟩
  · obtain ⟨v, z⟩ := I.cell x c e
    exact ⟨v, cellK x c e v z⟩
  · obtain ⟨m, ⟨o, _, _, ho, _⟩, _⟩ := I.loc
    exact free _ o (fun z => (hch _ z).2.1 rfl) ho I.free
  · obtain ⟨v, o, ho, hd⟩ := I.cell x c e
    exact free c o (fun z => (hch c z).2.2.1 x c e rfl) ho (I.freeC x c e)
  · obtain ⟨e, n, ne, nf, d⟩ := I.pin p hp
    have nch : p.1 ∉ ch := fun z => (hch p.1 z).2.2.2 p hp rfl
    exact ⟨keep p.1 p.2 ne nf nch e n, free p.1 p.2 nch e n, ne, nf, d⟩
/-- .. where the frame's own object is kept too -/
theorem Inv.un {t' : Nat} (I : Inv X pins σ H s) (u : Un X.fs [] H H' s.heap h') (hok : HOk X.prog X.w H' h') : Inv X pins σ H' { s with heap := h', toks := t' } := by
  obtain ⟨m, ⟨o, es, ep, ho, r⟩, _⟩ := id I.loc
  obtain ⟨sl, hL⟩ := u.any ho I.free (by simp)
  exact I.step (g' := s.gens) (d' := s.drawn) (ch := []) (fun _ z => nomatch z) (fun b o _ hb _ e n => u.keep b o e n hb (by simp)) (fun b o _ hb _ e n => u.slot b o e n hb (by simp)) (fun b o _ e n => u.free b o e n (by simp)) (fun b o _ e => u.there b o e (by simp)) u.tups u.frzs u.tbls (fun m' hm => by
    obtain ⟨o', es', ep', ho', r'⟩ := hm
    rw [ho] at ho'; cases ho'
    exact ⟨_, es', ep', hL, r'⟩) hok I.bare
/-- behind a call (or a comprehension's block): the slots of this frame may have changed too, the records at ch may have turned -/
theorem Inv.call {g' : Array GenState} {t' : Nat} {d' : Drawn} {ch : List Addr} (I : Inv X pins σ H s) (u : Un (frs X.stack) ch H H' s.heap h') (hok : HOk X.prog X.w H' h') (hg : AllBare g')
    (hch : ∀ b ∈ ch, (b ∈ X.ex ∨ X.s₀.heap.objs.size ≤ b) ∧ b ≠ X.env.locals ∧ (∀ x c, X.env.cells.lookup x = some c → c ≠ b) ∧ ∀ p ∈ X.pn ++ pins, p.1 ≠ b) :
    Inv X pins σ H' { s with heap := h', gens := g', drawn := d', toks := t' } := by
  obtain ⟨m, ⟨o, es, ep, ho, r⟩, _⟩ := id I.loc
  obtain ⟨sl, hL⟩ := u.any ho I.free fun z => (hch _ z).2.1 rfl
  exact I.step (ch := ch) hch (fun b o hL hb hc e n => u.keep b o e n (fun z => (List.mem_cons.mp (I.stkSub b z)).elim hL hb) hc) (fun b o _ _ hc e n => u.any e n hc) (fun b o hc e n => u.free b o e n hc) (fun b o hc e => u.there b o e hc) u.tups u.frzs u.tbls (fun m' hm => by
    obtain ⟨o', es', ep', ho', r'⟩ := hm
    rw [ho] at ho'; cases ho'
    exact ⟨_, es', ep', hL, r'⟩) hok hg
/-- an untracked record of ours (an iterator) has turned -/
theorem Inv.turned {t' : Nat} {it : Addr} (I : Inv X pins σ H s) (k : ∀ b o, b ≠ it → s.heap.get? b = some o → h'.get? b = some o) (hn : H it = none) (hL : it ≠ X.env.locals)
    (h1 : it ∈ X.ex ∨ X.s₀.heap.objs.size ≤ it) (h2 : ∀ x c, X.env.cells.lookup x = some c → c ≠ it) (h3 : ∀ p ∈ X.pn ++ pins, p.1 ≠ it) : Inv X pins σ H { s with heap := h', toks := t' } := by
  have nit : ∀ b u, H b = some u → b ≠ it := fun b u e z => by rw [z, hn] at e; cases e
  refine I.step (g' := s.gens) (d' := s.drawn) (ch := [it]) (fun b hb => ?_) (fun b o _ _ hc e _ => k b o (fun z => hc (by simp [z])) e) (fun b o _ _ hc e _ => ⟨o.slots, k b o (fun z => hc (by simp [z])) e⟩) (fun _ _ _ _ n => n)
    (fun b o hc e => ⟨o, k b o (fun z => hc (by simp [z])) e⟩) (fun _ _ e => e) (fun _ _ _ e => e) (fun b ps e => ⟨#[], by rw [e]; simp⟩) (fun m hm => ?_) (fun b u e => ?_) I.bare
  · have e : b = it := by simpa using hb
    subst e
    exact ⟨h1, hL, h2, h3⟩
  · obtain ⟨o, es, ep, ho, r⟩ := hm
    exact ⟨o, es, ep, k _ o (Ne.symm hL) ho, r⟩
  · refine (I.hok b u e).stay (fun c v hc q => k c v ?_ q) (fun _ q => q) fun _ _ q => q
    rcases hc with z | z
    · rw [z]; exact nit b u e
    · exact nit c _ z
theorem Inv.tok (I : Inv X pins σ H s) (t : Nat) : Inv X pins σ H { s with toks := t } := I.un (h' := s.heap) (t' := t) Un.refl I.hok
/-- all objects kept -/
theorem Inv.kept {t' : Nat} (I : Inv X pins σ H s) (k : ∀ b u, s.heap.get? b = some u → h'.get? b = some u) : Inv X pins σ H { s with heap := h', toks := t' } := I.un (Un.kept k) (I.hok.kept k)
/-- a new object laid and tracked -/
theorem Inv.laid {a : Addr} {o : HO} {t' : Nat} (I : Inv X pins σ H s) (k : ∀ b u, s.heap.get? b = some u → h'.get? b = some u) (hp : s.heap.objs.size ≤ a) (new : ObjOk X.prog X.w (upd H a o) h' a o) :
    Inv X pins σ (upd H a o) { s with heap := h', toks := t' } := I.un (Un.laid k hp (I.hok.fresh hp)) (I.hok.laid k hp new)
/-- an object written -/
theorem Inv.write {x e : Addr} {o : HO} {t' : Nat} (I : Inv X pins σ H s) (mu : Mut (H x)) (he : e = x ∨ H e = some (.own x)) (k : ∀ b u, b ≠ e → s.heap.get? b = some u → h'.get? b = some u) (heo : ∃ u, h'.get? e = some u)
    (new : ObjOk X.prog X.w (upd H x o) h' x o) : Inv X pins σ (upd H x o) { s with heap := h', toks := t' } := I.un (Un.write mu he k heo) (I.hok.write mu he k heo new)
theorem Inv.pins_of {pins' : List (Addr × Obj)} (I : Inv X pins σ H s) (h : ∀ p ∈ pins', s.heap.get? p.1 = some p.2 ∧ H p.1 = none ∧ p.1 ≠ X.env.locals ∧ p.1 ∉ X.fs ∧ ∀ v, p.2.data ≠ .cell v) : Inv X pins' σ H s :=
  ⟨I.ok, I.os, I.bare, I.base, I.loc, I.cell, I.free, I.freeC, fun p hp => (List.mem_append.mp hp).elim (fun z => I.pin p (List.mem_append_left _ z)) (h p), I.hok, I.len⟩

theorem nodup_ix {N : List Str} (hN : N.Nodup) {i j : Nat} {x : Str} (a : N[i]? = some x) (b : N[j]? = some x) : i = j := by
  obtain ⟨h1, e1⟩ := List.getElem?_eq_some_iff.mp a
  obtain ⟨h2, e2⟩ := List.getElem?_eq_some_iff.mp b
  exact (List.getElem_inj hN).mp (e1.trans e2.symm)

/-- a name is stored; what changed -/
theorem store_ok2 {M : Model} {A : Around} {E : Value → Shared → Prop} {i : Nat} {x : Str} {v : V} {u : Value} {Q : Unit → Shared → Prop} (I : Inv X pins σ H s) (hN : X.N.Nodup) (hi : X.N[i]? = some x) (hx : Loc X.env.scope x) (r : RelV v u)
    (h : ∀ s', Inv X pins (σ.set i (some v)) H s' → (∃ a, Heap.SameBut a s.heap s'.heap ∧ (a = X.env.locals ∨ X.env.cells.lookup x = some a)) → Q () s') (hf : X.fn x = true ∨ X.env.scope.names.lookup x = some .local := by first | exact .inl rfl | exact .inr rfl | assumption) : wpAny M A (storeName X.env x u) Q E s := by
  obtain ⟨m, hn, hl⟩ := id I.loc
  have hcls : (X.env.scope.kind == .class || (X.env.scope.kind == .module && X.env.locals != X.env.globals)) = false := by rw [I.ok.kind]; rfl
  have hiσ : i < σ.length := by rw [I.len]; exact (List.getElem?_eq_some_iff.mp hi).1
  have cne := I.cne
  have tracked : ∀ {a : Addr} {h' : Heap}, (∃ o, s.heap.get? a = some o ∧ H a = none) → Heap.SameBut a s.heap h' → HOk X.prog X.w H h' := fun {a h'} ha hs b ob e => by
    obtain ⟨_, _, hfree⟩ := ha
    refine (I.hok b ob e).stay (fun c w' hc q => (hs.2 c ?_).trans q) (fun _ q => q) fun _ _ q => q
    rintro rfl
    rcases hc with rfl | hc
    · rw [hfree] at e; cases e
    · rw [hfree] at hc; cases hc
  rcases hx with hk | hk
  · refine wpAny_storeName_local hk hn (fun h' hn' hs => ?_) hcls
    obtain ⟨oL, _, _, hoL, _⟩ := id hn
    refine h _ ⟨I.ok, I.os, I.bare, ⟨fun b o e n hb hx => ?_, fun b o e n hb hx => ?_, I.base.free, fun b o e hx => ?_, I.base.tups, I.base.frzs, I.base.tbls⟩, ⟨_, hn', fun j y v' e1 e2 e3 => ?_⟩, fun y c e => ?_, I.free, I.freeC, fun p hp => ?_, tracked ⟨oL, hoL, I.free⟩ hs, by simpa using I.len⟩ ⟨_, hs, .inl rfl⟩
    · exact (hs.2 b (Nat.ne_of_lt (Nat.lt_of_lt_of_le (Heap.lt_size e) I.ok.above))).trans (I.base.keep b o e n hb hx)
    · obtain ⟨sl, e1⟩ := I.base.slot b o e n hb hx
      exact ⟨sl, (hs.2 b (Nat.ne_of_lt (Nat.lt_of_lt_of_le (Heap.lt_size e) I.ok.above))).trans e1⟩
    · obtain ⟨o', e1⟩ := I.base.there b o e hx
      exact ⟨o', (hs.2 b (Nat.ne_of_lt (Nat.lt_of_lt_of_le (Heap.lt_size e) I.ok.above))).trans e1⟩
    · by_cases hj : j = i
      · subst hj
        rw [hi] at e1; cases e1
        rw [List.getElem?_set_self hiσ] at e2
        cases e2
        exact ⟨u, r, .inl ⟨hk, by simp⟩⟩
      · rw [List.getElem?_set_ne (Ne.symm hj)] at e2
        obtain ⟨u', r', q⟩ := hl j y v' e1 e2 e3
        refine ⟨u', r', ?_⟩
        rcases q with ⟨k, e⟩ | ⟨k, c, e, z⟩
        · refine .inl ⟨k, ?_⟩
          have : y ≠ x := fun e => hj (nodup_ix hN e1 (e ▸ hi))
          simp [this, e]
        · exact .inr ⟨k, c, e, z.sameBut hs (cne y c e)⟩
    · obtain ⟨w', z⟩ := I.cell y c e
      exact ⟨w', z.sameBut hs (cne y c e)⟩
    · obtain ⟨e, n, ne, nf, d⟩ := I.pin p hp
      exact ⟨(hs.2 p.1 ne).trans e, n, ne, nf, d⟩
  · have hfn : X.fn x = true := by
      rcases hf with z | z
      · exact z
      · rw [z] at hk; cases hk
    obtain ⟨c, hc⟩ := I.ok.has x (.inl hk)
    obtain ⟨w', z⟩ := I.cell x c hc
    refine wpAny_storeName_cell I.ok.kind hk hc z (fun h' hc' hs => ?_)
    obtain ⟨oc, hoc, hocd⟩ := id z
    refine h { s with heap := h' } ⟨I.ok, I.os, I.bare, ⟨fun b o e n hb hx => ?_, fun b o e n hb hx => ?_, I.base.free, fun b o e hx => ?_, I.base.tups, I.base.frzs, I.base.tbls⟩, ⟨m, hn.sameBut hs (Ne.symm (cne x c hc)), fun j y v' e1 e2 e3 => ?_⟩, fun y c' e => ?_, I.free, I.freeC, fun p hp => ?_, tracked ⟨oc, hoc, I.freeC x c hc⟩ hs, by simpa using I.len⟩ ⟨c, hs, .inr hc⟩
    · exact (hs.2 b (Nat.ne_of_lt (Nat.lt_of_lt_of_le (Heap.lt_size e) (I.ok.cab x c hfn hc)))).trans (I.base.keep b o e n hb hx)
    · obtain ⟨sl, e1⟩ := I.base.slot b o e n hb hx
      exact ⟨sl, (hs.2 b (Nat.ne_of_lt (Nat.lt_of_lt_of_le (Heap.lt_size e) (I.ok.cab x c hfn hc)))).trans e1⟩
    · obtain ⟨o', e1⟩ := I.base.there b o e hx
      exact ⟨o', (hs.2 b (Nat.ne_of_lt (Nat.lt_of_lt_of_le (Heap.lt_size e) (I.ok.cab x c hfn hc)))).trans e1⟩
    · by_cases hj : j = i
      · subst hj
        rw [hi] at e1; cases e1
        rw [List.getElem?_set_self hiσ] at e2
        cases e2
        exact ⟨u, r, .inr ⟨.inl hk, c, hc, hc'⟩⟩
      · rw [List.getElem?_set_ne (Ne.symm hj)] at e2
        obtain ⟨u', r', q⟩ := hl j y v' e1 e2 e3
        refine ⟨u', r', ?_⟩
        rcases q with q | ⟨k, c', e, z'⟩
        · exact .inl q
        · refine .inr ⟨k, c', e, z'.sameBut hs ?_⟩
          rintro rfl
          exact hj (nodup_ix hN e1 (I.ok.inj _ _ _ e hc ▸ hi))
    · by_cases hcc : c' = c
      · subst hcc; exact ⟨_, hc'⟩
      · obtain ⟨w2, z2⟩ := I.cell y c' e
        exact ⟨w2, z2.sameBut hs hcc⟩
    · obtain ⟨e, n, ne, nf, d⟩ := I.pin p hp
      refine ⟨(hs.2 p.1 ?_).trans e, n, ne, nf, d⟩
      intro q
      rw [q, hoc] at e
      have q' : oc = p.2 := Option.some.inj e
      exact d w' (by rw [← q']; exact hocd)
theorem store_ok {M : Model} {A : Around} {E : Value → Shared → Prop} {i : Nat} {x : Str} {v : V} {u : Value} {Q : Unit → Shared → Prop} (I : Inv X pins σ H s) (hN : X.N.Nodup) (hi : X.N[i]? = some x) (hx : Loc X.env.scope x) (r : RelV v u)
    (h : ∀ s', Inv X pins (σ.set i (some v)) H s' → Q () s') (hf : X.fn x = true ∨ X.env.scope.names.lookup x = some .local := by first | exact .inl rfl | exact .inr rfl | assumption) : wpAny M A (storeName X.env x u) Q E s :=
  store_ok2 I hN hi hx r (fun s' I' _ => h s' I') hf
/-- behind a call or a block, the state as it is -/
theorem Inv.call' {s' : Shared} {ch : List Addr} (I : Inv X pins σ H s) (ho : s'.os = s.os) (u : Un (frs X.stack) ch H H' s.heap s'.heap) (hok : HOk X.prog X.w H' s'.heap) (hg : AllBare s'.gens)
    (hch : ∀ b ∈ ch, (b ∈ X.ex ∨ X.s₀.heap.objs.size ≤ b) ∧ b ≠ X.env.locals ∧ (∀ x c, X.env.cells.lookup x = some c → c ≠ b) ∧ ∀ p ∈ X.pn ++ pins, p.1 ≠ b) : Inv X pins σ H' s' := by
  obtain ⟨h', g', d', t', o'⟩ := s'
  have e : o' = s.os := ho
  subst e
  exact I.call (g' := g') (t' := t') (d' := d') u hok hg hch
end

/-! ### the judgements -/
/-- an exception: its class, its own dict's address (where it has one), the abstract heap behind it -/
abbrev XK := Value → Option Addr → Hp → Prop
abbrev St := List (Option V)
abbrev VK := V → Hp → Prop
/-- an expression's reading; a test's; an argument list's -/
abbrev TE := St → Hp → VK → Prop
abbrev TT := St → Hp → (Bool → Hp → Prop) → Prop
abbrev TA := St → Hp → (List V → Hp → Prop) → Prop
/-- what is wanted behind a statement -/
structure Ends where
  nx : St → Hp → Prop
  rt : VK
  bk : St → Hp → Prop := fun _ _ => False
  ct : St → Hp → Prop := fun _ _ => False
abbrev TS := Ends → St → Hp → Prop

def EP (X : Cx) (pins : List (Addr × Obj)) (σ : St) (Q : VK) (u : Value) (s' : Shared) : Prop := ∃ v H', Inv X pins σ H' s' ∧ RelV v u ∧ Q v H'
def TP (X : Cx) (pins : List (Addr × Obj)) (σ : St) (Q : Bool → Hp → Prop) (b : Bool) (s' : Shared) : Prop := ∃ H', Inv X pins σ H' s' ∧ Q b H'
def AP (X : Cx) (pins : List (Addr × Obj)) (σ : St) (Q : List V → Hp → Prop) (us : List Value) (s' : Shared) : Prop := ∃ vs H', Inv X pins σ H' s' ∧ Vals vs us ∧ Q vs H'
def SP (X : Cx) (pins : List (Addr × Obj)) (D : Ends) (f : Flow) (s' : Shared) : Prop :=
  match f with
  | .next => ∃ σ' H', Inv X pins σ' H' s' ∧ D.nx σ' H'
  | .brk => ∃ σ' H', Inv X pins σ' H' s' ∧ D.bk σ' H'
  | .cont => ∃ σ' H', Inv X pins σ' H' s' ∧ D.ct σ' H'
  | .ret u => ∃ v σ' H', Inv X pins σ' H' s' ∧ RelV v u ∧ D.rt v H'

def PE (X : Cx) (e : Expr) (t : TE) : Prop :=
  ∀ (pins : List (Addr × Obj)) (s : Shared) (σ : St) (H : Hp) (Q : VK), Inv X pins σ H s → t σ H Q → wpAny (model X.prog X.w) X.A (eval e X.env) (EP X pins σ Q) X.xe s
def PT (X : Cx) (e : Expr) (t : TT) : Prop :=
  ∀ (pins : List (Addr × Obj)) (s : Shared) (σ : St) (H : Hp) (Q : Bool → Hp → Prop), Inv X pins σ H s → t σ H Q → wpAny (model X.prog X.w) X.A (isTrue e X.env (eval e X.env)) (TP X pins σ Q) X.xe s
/-- a test whatever its 'whole' is (and, or) -/
def PW (X : Cx) (e : Expr) (t : TT) : Prop :=
  ∀ (whole : Sem Value) (pins : List (Addr × Obj)) (s : Shared) (σ : St) (H : Hp) (Q : Bool → Hp → Prop), Inv X pins σ H s → t σ H Q → wpAny (model X.prog X.w) X.A (isTrue e X.env whole) (TP X pins σ Q) X.xe s
theorem PW.pt {X : Cx} {e : Expr} {t : TT} (h : PW X e t) : PT X e t := h _
/-- an argument list (no star), from the left -/
def PA (X : Cx) (es : List Expr) (t : TA) : Prop :=
  ∀ (pos : Pos) (pins : List (Addr × Obj)) (s : Shared) (σ : St) (H : Hp) (Q : List V → Hp → Prop), Inv X pins σ H s → t σ H Q → wpAny (model X.prog X.w) X.A (spliced (backTo pos (starEach es X.env))) (AP X pins σ Q) X.xe s
def PS (X : Cx) (st : Stmt) (t : TS) : Prop :=
  ∀ (pins : List (Addr × Obj)) (s : Shared) (σ : St) (H : Hp) (D : Ends), Inv X pins σ H s → t D σ H → wpAny (model X.prog X.w) X.A (exec st X.env) (SP X pins D) X.xe s
def PSs (X : Cx) (st : List Stmt) (t : TS) : Prop :=
  ∀ (pins : List (Addr × Obj)) (s : Shared) (σ : St) (H : Hp) (D : Ends), Inv X pins σ H s → t D σ H → wpAny (model X.prog X.w) X.A (execs st X.env) (SP X pins D) X.xe s
/-- weaken the end -/
theorem thn {α : Type} {t : Sem α} {Q Q' : α → Shared → Prop} {M : Model} {A : Around} {E : Value → Shared → Prop} {s : Shared} (h : wpAny M A t Q E s) (hQ : ∀ a s, Q a s → Q' a s) : wpAny M A t Q' E s := wpAny_mono h hQ fun _ _ x => x
end L2

namespace L2
open PySem PySem.Spec PyProof.Rows
section
variable {X : Cx}

/-! ### names and constants -/
def tVar (i : Nat) : TE := fun σ H Q => ∃ v, σ[i]? = some (some v) ∧ Q v H
def tC (v : V) : TE := fun _ H Q => Q v H
theorem pe_var {i : Nat} {x : Str} {pos : Pos} (hN : X.N[i]? = some x) (hv : Vis X.env.scope x) (hd : (x == ("__debug__" : Str)) = false := by decide) (hcd : (x == ("__classdict__" : Str)) = false := by decide) : PE X (.Name x pos) (tVar i) := by
  intro pins s σ H Q I h
  obtain ⟨v, e, h⟩ := h
  obtain ⟨m, hn, hl⟩ := I.loc
  obtain ⟨u, r, l⟩ := hl i x v hN e hv
  have fin : EP X pins σ Q u s := ⟨v, H, I, r, h⟩
  rcases l with ⟨hk, hm⟩ | ⟨hk, c, hc, hcell⟩
  · exact wpAny_Name (wpAny_loadName_local I.ok.kind hk hn hm fin) hd
  · rcases hk with hk | hk
    · exact wpAny_Name (wpAny_loadName_cell I.ok.kind hk hc hcell fin) hd
    · exact wpAny_Name (wpAny_loadName_free I.ok.kind hk hc hcell fin hcd) hd
theorem pe_int {i j pos} : PE X (.Constant (.int i) j pos) (tC (.int i)) := fun _ _ _ H _ I h => wpAny_Constant_int ⟨.int i, H, I.tok _, ⟨_, rfl⟩, h⟩
theorem pe_bl {b j pos} : PE X (.Constant (.bool b) j pos) (tC (.bl b)) := fun _ _ _ H _ I h => Constant_bool ⟨.bl b, H, I, rfl, h⟩
theorem pe_non {j pos} : PE X (.Constant .none j pos) (tC .non) := fun _ _ _ H _ I h => Constant_none ⟨.non, H, I, rfl, h⟩
theorem pe_str {x j pos} : PE X (.Constant (.str x) j pos) (tC (.str x)) := fun _ _ _ H _ I h => Calls.Constant_str ⟨.str x, H, I.tok _, ⟨_, rfl⟩, h⟩

/-- a global name of the def -/
def Gl (X : Cx) (x : Str) : Prop := X.env.kindOf x = some .globalImplicit
theorem ld_glob {E : Value → Shared → Prop} {pins : List (Addr × Obj)} {s : Shared} {σ : St} {H : Hp} {x : Str} {u : Value} {pos : Pos} {Q : Value → Shared → Prop} (I : Inv X pins σ H s) (hg : Gl X x) (hm : X.mg x = some u) (h : Q u s)
    (hd : (x == ("__debug__" : Str)) = false := by decide) : wpAny (model X.prog X.w) X.A (eval (.Name x pos) X.env) Q E s :=
  Calls.Name_function_global I.ok.kind hg (Calls.loadGlobal_global (by rw [I.ok.glob]; exact I.mod.glob.keeps I.bk) hm h) hd
theorem ld_blt {E : Value → Shared → Prop} {pins : List (Addr × Obj)} {s : Shared} {σ : St} {H : Hp} {x : Str} {u : Value} {pos : Pos} {Q : Value → Shared → Prop} (I : Inv X pins σ H s) (hg : Gl X x) (hm : X.mg x = none) (hv : bootBuiltins x = some u) (h : Q u s)
    (hn : x ≠ "__name__" := by decide) (hd : (x == ("__debug__" : Str)) = false := by decide) : wpAny (model X.prog X.w) X.A (eval (.Name x pos) X.env) Q E s := by
  obtain ⟨mb, h1, h2⟩ := I.mod.blt
  exact Calls.Name_function_global I.ok.kind hg (Calls.loadGlobal_builtin (by rw [I.ok.glob]; exact I.mod.glob.keeps I.bk) hm (by rw [I.ok.blt]; exact h1.keeps I.bk) ((h2 x hn).trans hv) h) hd
/-- a module's constant, a class, a function, as a value -/
theorem pe_glob {x : Str} {v : V} {u : Value} {pos : Pos} (hg : Gl X x) (hm : X.mg x = some u) (r : RelV v u) (hd : (x == ("__debug__" : Str)) = false := by decide) : PE X (.Name x pos) (tC v) :=
  fun _ _ _ H _ I h => ld_glob I hg hm ⟨v, H, I, r, h⟩ hd
theorem pe_bltn {x : Str} {v : V} {u : Value} {pos : Pos} (hg : Gl X x) (hm : X.mg x = none) (hv : bootBuiltins x = some u) (r : RelV v u) (hn : x ≠ "__name__" := by decide) (hd : (x == ("__debug__" : Str)) = false := by decide) : PE X (.Name x pos) (tC v) :=
  fun _ _ _ H _ I h => ld_blt I hg hm hv ⟨v, H, I, r, h⟩ hn hd

/-! ### arithmetic -/
/-- two ints -/
def t2I (ta tb : TE) (k : Int → Int → Hp → Prop) : St → Hp → Prop := fun σ H => ta σ H fun x H1 => tb σ H1 fun y H2 => ∃ i j, x = .int i ∧ y = .int j ∧ k i j H2
def tAdd (ta tb : TE) : TE := fun σ H Q => t2I ta tb (fun i j H2 => Q (.int (i + j)) H2) σ H
def tSub (ta tb : TE) : TE := fun σ H Q => t2I ta tb (fun i j H2 => Q (.int (i - j)) H2) σ H
/-- the left factor below 2^64 -/
def tMul (ta tb : TE) : TE := fun σ H Q => t2I ta tb (fun i j H2 => (-(2 ^ 64) < i ∧ i < 2 ^ 64) ∧ Q (.int (i * j)) H2) σ H
variable {a b : Expr} {ta tb : TE} {pos : Pos}
/-! ### comparisons -/
def PC (X : Cx) (op : CmpOp) (a b : Expr) (t : TE) : Prop :=
  ∀ (pins : List (Addr × Obj)) (s : Shared) (σ : St) (H : Hp) (Q : VK), Inv X pins σ H s → t σ H Q →
    wpAny (model X.prog X.w) X.A (eval a X.env) (fun v s₁ => wpAny (model X.prog X.w) X.A (eval b X.env) (fun u s₂ => wpAny (model X.prog X.w) X.A (compareOp op v u) (EP X pins σ Q) X.xe s₂) X.xe s₁) X.xe s
theorem nobehind (b : Expr) {op : CmpOp} (h : op ≠ .In) (h2 : op ≠ .NotIn) : behindInMarks op b = false := by
  have e1 : (op == CmpOp.In) = false := by cases op <;> first | rfl | exact absurd rfl h
  have e2 : (op == CmpOp.NotIn) = false := by cases op <;> first | rfl | exact absurd rfl h2
  cases b <;> simp [behindInMarks, e1, e2]
def tCmp (p : Int → Int → Bool) (ta tb : TE) : TE := fun σ H Q => t2I ta tb (fun i j H2 => Q (.bl (p i j)) H2) σ H
abbrev tLt : TE → TE → TE := tCmp fun i j => decide (i < j)
abbrev tLe : TE → TE → TE := tCmp fun i j => decide (i ≤ j)
abbrev tGt : TE → TE → TE := tCmp fun i j => decide (j < i)
abbrev tGe : TE → TE → TE := tCmp fun i j => decide (j ≤ i)
abbrev tEqI : TE → TE → TE := tCmp fun i j => decide (i = j)
abbrev tNeI : TE → TE → TE := tCmp fun i j => !decide (i = j)
/-- is None -/
def tIsN (ta : TE) : TE := fun σ H Q => ta σ H fun x H1 => Q (.bl (decide (x = .non))) H1
def tNotN (ta : TE) : TE := fun σ H Q => ta σ H fun x H1 => Q (.bl (!decide (x = .non))) H1
theorem RelV.none_iff {x : V} {v : Value} (r : RelV x v) : (v == Value.none) = decide (x = .non) := by
  cases x with
  | non => cases r; rfl
  | bl _ => cases r; rfl
  | int _ => obtain ⟨t, rfl⟩ := r; rfl
  | str _ => obtain ⟨t, rfl⟩ := r; rfl
  | byt _ => obtain ⟨t, rfl⟩ := r; rfl
  | flt _ => obtain ⟨t, rfl⟩ := r; rfl
  | ref _ => cases r; rfl
  | ty _ => cases r; rfl
theorem pc_isN {j pos'} (ha : PE X a ta) : PC X .Is a (.Constant .none j pos') (tIsN ta) := by
  intro pins s σ H Q I h
  refine thn (ha pins s σ H _ I h) fun v s1 ⟨x, H1, I1, r1, q1⟩ => ?_
  exact Constant_none (is_none_gen ⟨.bl _, H1, I1, by rw [r1.none_iff]; rfl, q1⟩)
/-- a comparison as a value, as a test -/
def tB (t : TE) : TT := fun σ H Q => t σ H fun x H1 => ∃ c, x = .bl c ∧ Q c H1
theorem pe_cmp {op : CmpOp} {t : TE} (h : PC X op a b t) (h1 : behindInMarks op b = false := by first | exact nobehind _ (by decide) (by decide) | rfl) : PE X (.Compare a [op] [b] pos) t := fun pins s σ H Q I hw => wpAny_Compare1 (h pins s σ H Q I hw) h1
theorem pt_cmp {op : CmpOp} {t : TE} (h : PC X op a b t) (h1 : behindInMarks op b = false := by first | exact nobehind _ (by decide) (by decide) | rfl) : PT X (.Compare a [op] [b] pos) (tB t) := by
  intro pins s σ H Q I hw
  refine wpAny_isTrue_Compare1 (thn (h pins s σ H _ I hw) fun v s1 h1 => thn h1 fun u s2 h2 => thn h2 fun c s3 ⟨x, H1, I1, r1, q1⟩ => ?_) h1
  obtain ⟨d, rfl, q⟩ := q1
  cases r1
  exact wpAny_truthy_bool ⟨H1, I1, q⟩
/-- an expression whose value is a bool, as a test -/
theorem pt_val {e : Expr} {t : TE} (h : PE X e t) (he : ∀ whole, isTrue e X.env whole = (do let v ← whole; standAt e.pos; holding [v] (truthy v)) := by intro _; rfl) : PT X e (tB t) := by
  intro pins s σ H Q I hw
  refine isTrue_plain (thn (h pins s σ H _ I hw) fun v s1 ⟨x, H1, I1, r1, q1⟩ => ?_) (he _)
  obtain ⟨d, rfl, q⟩ := q1
  cases r1
  exact wpAny_truthy_bool ⟨H1, I1, q⟩

/-! ### and, or, not -/
variable {tA tB' : TT} {rest : List Expr}
def tAnd (t u : TT) : TT := fun σ H Q => t σ H fun c H1 => if c = true then u σ H1 Q else Q false H1
def tOr (t u : TT) : TT := fun σ H Q => t σ H fun c H1 => if c = true then Q true H1 else u σ H1 Q
def tNot (t : TT) : TT := fun σ H Q => t σ H fun c H1 => Q (!c) H1
theorem pw_and1 (ha : PT X a tA) : PW X (.BoolOp .And [a] pos) tA := by
  intro wh pins s σ H Q I h
  refine isTrue_and (thn (ha pins s σ H Q I h) fun c s1 e => ?_)
  cases c with
  | true => exact isTrue_and_nil e
  | false => exact e
theorem pw_or1 (ha : PT X a tA) : PW X (.BoolOp .Or [a] pos) tA := by
  intro wh pins s σ H Q I h
  refine isTrue_or (thn (ha pins s σ H Q I h) fun c s1 e => ?_)
  cases c with
  | false => exact isTrue_or_nil e
  | true => exact e
theorem pw_and (ha : PT X a tA) (hb : PW X (.BoolOp .And (b :: rest) pos) tB') : PW X (.BoolOp .And (a :: b :: rest) pos) (tAnd tA tB') := by
  intro wh pins s σ H Q I h
  refine isTrue_and (thn (ha pins s σ H _ I h) fun c s1 ⟨H1, I1, q1⟩ => ?_)
  cases c with
  | true => exact hb wh pins s1 σ H1 Q I1 q1
  | false => exact ⟨H1, I1, q1⟩
theorem pw_or (ha : PT X a tA) (hb : PW X (.BoolOp .Or (b :: rest) pos) tB') : PW X (.BoolOp .Or (a :: b :: rest) pos) (tOr tA tB') := by
  intro wh pins s σ H Q I h
  refine isTrue_or (thn (ha pins s σ H _ I h) fun c s1 ⟨H1, I1, q1⟩ => ?_)
  cases c with
  | true => exact ⟨H1, I1, q1⟩
  | false => exact hb wh pins s1 σ H1 Q I1 q1
theorem pt_not (ha : PT X a tA) : PT X (.UnaryOp .Not a pos) (tNot tA) := by
  intro pins s σ H Q I h
  exact isTrue_not (ha pins s σ H (fun c H1 => Q (!c) H1) I h)
/-- .. as values (bools) -/
def tAndV (ta tb : TE) : TE := fun σ H Q => ta σ H fun x H1 => ∃ c, x = .bl c ∧ if c = true then tb σ H1 Q else Q (.bl false) H1
def tOrV (ta tb : TE) : TE := fun σ H Q => ta σ H fun x H1 => ∃ c, x = .bl c ∧ if c = true then Q (.bl true) H1 else tb σ H1 Q
def tNotV (ta : TE) : TE := fun σ H Q => ta σ H fun x H1 => ∃ c, x = .bl c ∧ Q (.bl (!c)) H1
theorem pe_one {op} {t : TE} (h : PE X a t) : PE X (.BoolOp op [a] pos) t := fun pins s σ H Q I hw => BoolOp_one (h pins s σ H Q I hw)
theorem pe_and (ha : PE X a ta) (hb : PE X (.BoolOp .And (b :: rest) pos) tb) : PE X (.BoolOp .And (a :: b :: rest) pos) (tAndV ta tb) := by
  intro pins s σ H Q I h
  refine BoolOp_and (thn (ha pins s σ H _ I h) fun v s1 ⟨x, H1, I1, r1, q1⟩ => ?_)
  obtain ⟨c, rfl, q1⟩ := q1
  cases r1
  refine wpAny_truthy_bool ?_
  cases c with
  | true => exact hb pins s1 σ H1 Q I1 q1
  | false => exact ⟨.bl false, H1, I1, rfl, q1⟩
theorem pe_or (ha : PE X a ta) (hb : PE X (.BoolOp .Or (b :: rest) pos) tb) : PE X (.BoolOp .Or (a :: b :: rest) pos) (tOrV ta tb) := by
  intro pins s σ H Q I h
  refine BoolOp_or (thn (ha pins s σ H _ I h) fun v s1 ⟨x, H1, I1, r1, q1⟩ => ?_)
  obtain ⟨c, rfl, q1⟩ := q1
  cases r1
  refine wpAny_truthy_bool ?_
  cases c with
  | false => exact hb pins s1 σ H1 Q I1 q1
  | true => exact ⟨.bl true, H1, I1, rfl, q1⟩
theorem pe_not (ha : PE X a ta) : PE X (.UnaryOp .Not a pos) (tNotV ta) := by
  intro pins s σ H Q I h
  refine UnaryOp_ (thn (ha pins s σ H _ I h) fun v s1 ⟨x, H1, I1, r1, q1⟩ => ?_)
  obtain ⟨c, rfl, q1⟩ := q1
  cases r1
  exact not_of (wpAny_truthy_bool ⟨.bl (!c), H1, I1, rfl, q1⟩)
/-- a if t else b -/
def tIf (t : TT) (ta tb : TE) : TE := fun σ H Q => t σ H fun c H1 => if c = true then ta σ H1 Q else tb σ H1 Q
end
end L2

namespace L2
open PySem PySem.Spec PyProof.Rows

/-! ### a list, a tuple that is read: tracked, frozen, or an object of the module -/
def SqL (K : PySem.W.Frag) (H : Hp) (a : Addr) (xs : List V) : Prop :=
  Rd H a (.lst xs) ∨
    ∃ (o : Obj) (its : Array Value) (n : Nat), K.lookup a = some o ∧ o.cls = .type "list" ∧ o.dict = none ∧ o.data = .seq its n ∧ its.size ≤ sizeLine ∧ Vals xs its.toList
def SqT (K : PySem.W.Frag) (H : Hp) (a : Addr) (xs : List V) : Prop :=
  Rd H a (.tup xs) ∨
    ∃ (o : Obj) (its : Array Value) (n : Nat), K.lookup a = some o ∧ o.cls = .type "tuple" ∧ o.data = .seq its n ∧ its.size ≤ sizeLine ∧ Vals xs its.toList
def absV : Value → Option V
  | .none => some .non
  | .bool b => some (.bl b)
  | .int i _ => some (.int i)
  | .str x _ => some (.str x)
  | .bytes b _ => some (.byt b)
  | .float b _ => some (.flt b)
  | .ref a => some (.ref a)
  | .type n => some (.ty n)
  | _ => none
theorem RelV.abs {x : V} {u : Value} (r : RelV x u) : absV u = some x := by
  cases x with
  | non => cases r; rfl
  | bl _ => cases r; rfl
  | int _ => obtain ⟨t, rfl⟩ := r; rfl
  | str _ => obtain ⟨t, rfl⟩ := r; rfl
  | byt _ => obtain ⟨t, rfl⟩ := r; rfl
  | flt _ => obtain ⟨t, rfl⟩ := r; rfl
  | ref _ => cases r; rfl
  | ty _ => cases r; rfl
theorem RelV.inj {x y : V} {u : Value} (r : RelV x u) (q : RelV y u) : x = y := Option.some.inj (r.abs.symm.trans q.abs)
theorem Vals.inj : ∀ {xs ys : List V} {us : List Value}, Vals xs us → Vals ys us → xs = ys
  | _, _, _, .nil, .nil => rfl
  | _, _, _, .cons r t, .cons r' t' => by rw [r.inj r', Vals.inj t t']
section
variable {X : Cx} {pins : List (Addr × Obj)} {σ : St} {H : Hp} {s : Shared} {a : Addr} {xs ys : List V}
theorem SqL.of {K : PySem.W.Frag} (h : H a = some (.lst xs)) : SqL K H a xs := .inl (.inl h)
theorem SqT.of {K : PySem.W.Frag} (h : H a = some (.tup xs)) : SqT K H a xs := .inl (.inl h)
theorem Inv.list (I : Inv X pins σ H s) (h : SqL X.K H a xs) : ∃ its : List Value, Vals xs its ∧ PlainL s.heap a its.toArray ∧ xs.length ≤ sizeLine := by
  rcases h with h | ⟨o, its, n, hk, hc, hd, hs, hz, r⟩
  · obtain ⟨z, its, n, r, e⟩ := h.ok I.hok
    exact ⟨its, r, ⟨_, n, e, rfl, rfl, rfl⟩, z⟩
  · refine ⟨its.toList, r, ⟨o, n, I.kIn a o hk, hc, hd, by simpa using hs⟩, ?_⟩
    have e := r.length
    simp only [Array.length_toList] at e
    omega
theorem Inv.tuple (I : Inv X pins σ H s) (h : SqT X.K H a xs) : ∃ its : List Value, Vals xs its ∧ IsTup s.heap a its.toArray ∧ xs.length ≤ sizeLine := by
  rcases h with h | ⟨o, its, n, hk, hc, hs, hz, r⟩
  · obtain ⟨z, its, r, p⟩ := h.ok I.hok
    exact ⟨its, r, p, z⟩
  · refine ⟨its.toList, r, ⟨o, I.kIn a o hk, hc, n, by simpa using hs⟩, ?_⟩
    have e := r.length
    simp only [Array.length_toList] at e
    omega
theorem Inv.list_inj (I : Inv X pins σ H s) (h : SqL X.K H a xs) (h' : SqL X.K H a ys) : xs = ys := by
  obtain ⟨its, r, ⟨o, n, e, _, _, d⟩, _⟩ := I.list h
  obtain ⟨its', r', ⟨o', n', e', _, _, d'⟩, _⟩ := I.list h'
  rw [e] at e'; cases e'
  rw [d] at d'
  injection d' with d1 _
  have : its = its' := by simpa using congrArg Array.toList d1
  subst this
  exact r.inj r'
end

/-! ### another wish about exceptions -/
abbrev Cx.wish (X : Cx) (E : Value → Shared → Prop) : Cx := { X with xe := E }
/-- no exception leaves -/
abbrev Cx.nox (X : Cx) : Cx := X.wish fun _ _ => False
theorem Cx.Ok.wish {X : Cx} (ok : X.Ok) (E : Value → Shared → Prop) : (X.wish E).Ok :=
  ⟨ok.mod, ok.kind, ok.glob, ok.blt, ok.above, ok.inj, ok.has, ok.cab, ok.hd, ok.frames, ok.stk, ok.exf, ok.bs, ok.bsz, ok.noex, ok.exfs, ok.funs, ok.frf⟩
theorem Cx.Ok.unwish {X : Cx} {E : Value → Shared → Prop} (ok : (X.wish E).Ok) : X.Ok :=
  ⟨ok.mod, ok.kind, ok.glob, ok.blt, ok.above, ok.inj, ok.has, ok.cab, ok.hd, ok.frames, ok.stk, ok.exf, ok.bs, ok.bsz, ok.noex, ok.exfs, ok.funs, ok.frf⟩
section
variable {X : Cx} {pins : List (Addr × Obj)} {σ : St} {H : Hp} {s : Shared} {E : Value → Shared → Prop}
theorem Inv.wish (I : Inv X pins σ H s) (E : Value → Shared → Prop) : Inv (X.wish E) pins σ H s := ⟨I.ok.wish E, I.os, I.bare, I.base, I.loc, I.cell, I.free, I.freeC, I.pin, I.hok, I.len⟩
theorem Inv.unwish (I : Inv (X.wish E) pins σ H s) : Inv X pins σ H s := ⟨I.ok.unwish, I.os, I.bare, I.base, I.loc, I.cell, I.free, I.freeC, I.pin, I.hok, I.len⟩
theorem SP.unwish {D : Ends} {f : Flow} {s' : Shared} (h : SP (X.wish E) pins D f s') : SP X pins D f s' := by
  cases f with
  | next => obtain ⟨σ', H', I, q⟩ := h; exact ⟨σ', H', I.unwish, q⟩
  | brk => obtain ⟨σ', H', I, q⟩ := h; exact ⟨σ', H', I.unwish, q⟩
  | cont => obtain ⟨σ', H', I, q⟩ := h; exact ⟨σ', H', I.unwish, q⟩
  | ret u => obtain ⟨v, σ', H', I, r, q⟩ := h; exact ⟨v, σ', H', I.unwish, r, q⟩
theorem PE.nox {e : Expr} {t : TE} (h : PE X.nox e t) : PE X e t := fun pins s σ H Q I hw =>
  wpAny_mono (h pins s σ H Q (I.wish _) hw) (fun _ _ ⟨v, H', I', r, q⟩ => ⟨v, H', I'.unwish, r, q⟩) fun _ _ z => False.elim z
theorem PT.nox {e : Expr} {t : TT} (h : PT X.nox e t) : PT X e t := fun pins s σ H Q I hw =>
  wpAny_mono (h pins s σ H Q (I.wish _) hw) (fun _ _ ⟨H', I', q⟩ => ⟨H', I'.unwish, q⟩) fun _ _ z => False.elim z
theorem PSs.nox {st : List Stmt} {t : TS} (h : PSs X.nox st t) : PSs X st t := fun pins s σ H D I hw =>
  wpAny_mono (h pins s σ H D (I.wish _) hw) (fun _ _ q => q.unwish) fun _ _ z => False.elim z
end

/-! ### blocks and small statements -/
section
variable {X : Cx} {st : Stmt} {rest : List Stmt} {t u : TS} {e : Expr} {te : TE} {pos : Pos}
def tNext : TS := fun D σ H => D.nx σ H
def tSeq (t u : TS) : TS := fun D σ H => t { D with nx := u D } σ H
theorem pss_nil : PSs X [] tNext := fun _ _ σ H _ I h => wpAny_execs_nil ⟨σ, H, I, h⟩
theorem pss_cons (h1 : PS X st t) (h2 : PSs X rest u) : PSs X (st :: rest) (tSeq t u) := by
  intro pins s σ H D I h
  refine wpAny_execs_cons (thn (h1 pins s σ H { D with nx := u D } I h) fun f s1 q => ?_)
  cases f with
  | next =>
    obtain ⟨σ', H', I', q⟩ := q
    exact h2 pins s1 σ' H' D I' q
  | ret v => exact q
  | brk => exact q
  | cont => exact q
theorem pss_one (h1 : PS X st t) : PSs X [st] t := by
  intro pins s σ H D I h
  refine wpAny_execs_cons (thn (h1 pins s σ H D I h) fun f s1 q => ?_)
  cases f with
  | next => exact wpAny_execs_nil q
  | ret v => exact q
  | brk => exact q
  | cont => exact q
def tBreak : TS := fun D σ H => D.bk σ H
def tCont : TS := fun D σ H => D.ct σ H
/-- in a def's body nothing is shown -/
theorem Inv.quiet {pins : List (Addr × Obj)} {σ : St} {H : Hp} {s : Shared} (I : Inv X pins σ H s) : interactive X.env = false := by simp [interactive, I.ok.kind]
/-- an expression whose value is dropped -/
def tDrop (te : TE) : TS := fun D σ H => te σ H fun _ H1 => D.nx σ H1
theorem ps_expr (he : PE X e te) (hs : swapsWith e none pos.line X.env = pure false := by rfl) : PS X (.Expr e pos) (tDrop te) := by
  intro pins s σ H D I h
  exact wpAny_Expr_any (thn (he pins s σ H _ I h) fun v s1 ⟨x, H1, I1, r1, q1⟩ => ⟨σ, H1, I1, q1⟩) I.quiet hs
def tRet (te : TE) : TS := fun D σ H => te σ H D.rt
theorem ps_ret (he : PE X e te) : PS X (.Return (some e) pos) (tRet te) := by
  intro pins s σ H D I h
  exact wpAny_Return_some (thn (he pins s σ H _ I h) fun v s1 ⟨x, H1, I1, r1, q1⟩ => ⟨x, σ, H1, I1, r1, q1⟩)
def tRetN : TS := fun D _ H => D.rt .non H
def tIfS (c : TT) (t u : TS) : TS := fun D σ H => c σ H fun b H1 => if b = true then t D σ H1 else u D σ H1
theorem ps_if {c : Expr} {a b : List Stmt} {tc : TT} (hc : PT X c tc) (ha : PSs X a t) (hb : PSs X b u) : PS X (.If c a b pos) (tIfS tc t u) := by
  intro pins s σ H D I h
  refine wpAny_If (thn (hc pins s σ H _ I h) fun d s1 ⟨H1, I1, q1⟩ => ?_)
  cases d with
  | true => exact ha pins s1 σ H1 D I1 q1
  | false => exact hb pins s1 σ H1 D I1 q1
/-- code that the proof never comes to -/
def tNever : TS := fun _ _ _ => False
end

/-! ### targets -/
abbrev TG := V → St → Hp → (St → Hp → Prop) → Prop
abbrev TGs := List V → St → Hp → (St → Hp → Prop) → Prop
def PG (X : Cx) (target : Expr) (t : TG) : Prop :=
  ∀ (pins : List (Addr × Obj)) (s : Shared) (σ : St) (H : Hp) (v : V) (u : Value) (Q : St → Hp → Prop), Inv X pins σ H s → RelV v u → t v σ H Q →
    wpAny (model X.prog X.w) X.A (assign target X.env u) (fun _ s' => ∃ σ' H', Inv X pins σ' H' s' ∧ Q σ' H') X.xe s
/-- several targets, one after another -/
def PGs (X : Cx) (ts : List Expr) (t : TGs) : Prop :=
  ∀ (pins : List (Addr × Obj)) (s : Shared) (σ : St) (H : Hp) (vs : List V) (us : List Value) (Q : St → Hp → Prop), Inv X pins σ H s → Vals vs us → t vs σ H Q →
    wpAny (model X.prog X.w) X.A (assignInOrder ((assignEach ts X.env).map (·.2)) us) (fun _ s' => ∃ σ' H', Inv X pins σ' H' s' ∧ Q σ' H') X.xe s
/-- o[i] = v, by values -/
abbrev TSet := V → V → V → Hp → (Hp → Prop) → Prop
def PSet (X : Cx) (t : TSet) : Prop :=
  ∀ (pins : List (Addr × Obj)) (s : Shared) (σ : St) (H : Hp) (o i v : V) (ov iv u : Value) (Q : Hp → Prop), Inv X pins σ H s → RelV o ov → RelV i iv → RelV v u → t o i v H Q →
    wpAny (model X.prog X.w) X.A (setItem ov iv u) (fun _ s' => ∃ H', Inv X pins σ H' s' ∧ Q H') X.xe s
/-- a op= b, by values -/
abbrev TIp := V → V → Hp → VK → Prop
def PIp (X : Cx) (op : Operator) (t : TIp) : Prop :=
  ∀ (pins : List (Addr × Obj)) (s : Shared) (σ : St) (H : Hp) (x y : V) (v u : Value) (Q : VK), Inv X pins σ H s → RelV x v → RelV y u → t x y H Q →
    wpAny (model X.prog X.w) X.A (inplaceOp op v u) (EP X pins σ Q) X.xe s
section
variable {X : Cx} {pos : Pos}
def gName (i : Nat) : TG := fun v σ H Q => Q (σ.set i (some v)) H
theorem pg_name {i : Nat} {x : Str} (hN : X.N.Nodup) (hi : X.N[i]? = some x) (hx : Loc X.env.scope x) (hf : X.fn x = true ∨ X.env.scope.names.lookup x = some .local := by first | exact .inl rfl | exact .inr rfl | assumption) : PG X (.Name x pos) (gName i) := by
  intro pins s σ H v u Q I r h
  exact wpAny_assign_Name (store_ok I hN hi hx r (fun s' I' => ⟨_, H, I', h⟩) hf)
def gNil : TGs := fun vs σ H Q => vs = [] ∧ Q σ H
def gCons (t : TG) (u : TGs) : TGs := fun vs σ H Q => ∃ v r, vs = v :: r ∧ t v σ H fun σ' H' => u r σ' H' Q
theorem pgs_nil : PGs X [] gNil := by
  intro pins s σ H vs us Q I r h
  obtain ⟨e, h⟩ := h
  subst e
  cases r
  exact assignInOrder_nil ⟨σ, H, I, h⟩
theorem pgs_cons {e : Expr} {es : List Expr} {t : TG} {u : TGs} (h1 : PG X e t) (h2 : PGs X es u)
    (hs : (assignEach (e :: es) X.env).map (·.2) = assign e X.env :: (assignEach es X.env).map (·.2) := by rfl) : PGs X (e :: es) (gCons t u) := by
  intro pins s σ H vs us Q I r h
  obtain ⟨v, vr, e1, h⟩ := h
  subst e1
  cases r with
  | cons r rr =>
    rw [hs]
    refine assignInOrder_cons (thn (h1 pins s σ H _ _ _ I r h) fun _ s1 ⟨σ1, H1, I1, q1⟩ => ?_)
    exact h2 pins s1 σ1 H1 _ _ Q I1 rr q1
/-- (a, b, ..) = a tuple of that length -/
def gTup (K : PySem.W.Frag) (n : Nat) (t : TGs) : TG := fun v σ H Q => ∃ a xs, v = .ref a ∧ SqT K H a xs ∧ xs.length = n ∧ t xs σ H Q
theorem pg_tup {es : List Expr} {k : Nat} {t : TGs} {n : Nat} (hc : X.calm = true) (h : PGs X es t)
    (hn : (assignEach es X.env).length = n := by rfl) (hst : (assignEach es X.env).findIdx? (·.1) = none := by rfl) : PG X (.Tuple es k pos) (gTup X.K n t) := by
  intro pins s σ H v u Q I r hw
  obtain ⟨a, xs, e1, hq, hl, hw⟩ := hw
  subst e1
  cases r
  obtain ⟨its, rv, ht, hz⟩ := I.tuple hq
  refine assign_Tuple_tuple (I.ok.hd hc) ht (by simp [hn, ← hl, rv.length]) hst fun h' hx => ?_
  have I1 : Inv X pins σ H { s with heap := h' } := I.kept (t' := s.toks) fun b o e => hx b o (Nat.ne_of_lt (Heap.lt_size e)) e
  exact h pins _ σ H xs _ Q I1 (by simpa using rv) hw
/-- o[i] = .. -/
def gSub (to ti : TE) (t : TSet) : TG := fun v σ H Q => to σ H fun o H1 => ti σ H1 fun i H2 => t o i v H2 fun H3 => Q σ H3
theorem pg_sub {o i : Expr} {to ti : TE} {t : TSet} (ho : PE X o to) (hi : PE X i ti) (hs : PSet X t)
    (ha : ∀ v, assign (.Subscript o i pos) X.env v = (do
      let ov ← holding [v] (eval o X.env)
      let iv ← holding [v, ov] (eval i X.env)
      standAt pos
      holding [v, ov, iv] (setItem ov iv v)
      release [v, ov, iv] []) := by intro _; rfl) : PG X (.Subscript o i pos) (gSub to ti t) := by
  intro pins s σ H v u Q I r h
  rw [ha]
  refine wpAny_bind (wpAny_holding (thn (ho pins s σ H _ I h) fun ov s1 ⟨x, H1, I1, r1, q1⟩ => ?_))
  refine wpAny_bind (wpAny_holding (thn (hi pins s1 σ H1 _ I1 q1) fun iv s2 ⟨y, H2, I2, r2, q2⟩ => ?_))
  refine wpAny_bind (wpAny_standAt (wpAny_bind (wpAny_holding (thn (hs pins s2 σ H2 x y v ov iv u _ I2 r1 r2 r q2) fun _ s3 ⟨H3, I3, q3⟩ => ?_))))
  exact wpAny_release ⟨σ, H3, I3, q3⟩
/-- target = value -/
def tAsg (te : TE) (g : TG) : TS := fun D σ H => te σ H fun x H1 => g x σ H1 D.nx
theorem ps_asg {tg e : Expr} {te : TE} {g : TG} (he : PE X e te) (hg : PG X tg g) (hs : swapsWithSole [tg] e pos.line X.env = pure false := by rfl) (hw : swappedStores [tg] e X.env = pure none := by rfl)
    (h1 : (assignEach [tg] X.env).map (·.2) = [assign tg X.env] := by rfl) : PS X (.Assign [tg] e pos) (tAsg te g) := by
  intro pins s σ H D I h
  refine wpAny_Assign_stores (thn (he pins s σ H _ I h) fun v s1 ⟨x, H1, I1, r1, q1⟩ => ?_) hs hw
  rw [h1]
  exact thn (hg pins s1 σ H1 x v _ I1 r1 q1) fun _ s2 q => q
/-- name = value -/
theorem ps_set {i : Nat} {x : Str} {e : Expr} {te : TE} {pos' : Pos} (hN : X.N.Nodup) (hi : X.N[i]? = some x) (hx : Loc X.env.scope x) (he : PE X e te) (hs : swapsWith e (some (.Name x pos')) pos.line X.env = pure false := by rfl) (hf : X.fn x = true ∨ X.env.scope.names.lookup x = some .local := by first | exact .inl rfl | exact .inr rfl | assumption) :
    PS X (.Assign [.Name x pos'] e pos) (tAsg te (gName i)) := by
  intro pins s σ H D I h
  refine wpAny_Assign_Name (thn (he pins s σ H _ I h) fun v s1 ⟨y, H1, I1, r1, q1⟩ => ?_) hs
  exact store_ok I1 hN hi hx r1 (fun s2 I2 => ⟨_, H1, I2, q1⟩) hf
/-- a, b = x, y with plain local names: stored from the right; the pair itself is not tracked (the opening rows as in PyProof/Rows/TupAssign.lean:23) -/
def tPar (i j : Nat) (ta : TA) : TS := fun D σ H => ta σ H fun vs H1 => ∃ v w, vs = [v, w] ∧ D.nx ((σ.set i (some v)).set j (some w)) H1
/-- name op= e -/
def tAug (i : Nat) (te : TE) (ti : TIp) : TS := fun D σ H => ∃ x, σ[i]? = some (some x) ∧ te σ H fun y H1 => ti x y H1 fun z H2 => D.nx (σ.set i (some z)) H2
/-- o[i] op= e -/
def tAugS (to ti te : TE) (tget : V → V → Hp → VK → Prop) (tip : TIp) (tset : TSet) : TS := fun D σ H => to σ H fun o H1 => ti σ H1 fun i H2 => tget o i H2 fun x H3 => te σ H3 fun y H4 => tip x y H4 fun z H5 => tset o i z H5 fun H6 => D.nx σ H6
/-- o[i], by values -/
def PGet (X : Cx) (t : V → V → Hp → VK → Prop) : Prop :=
  ∀ (pins : List (Addr × Obj)) (s : Shared) (σ : St) (H : Hp) (o i : V) (ov iv : Value) (Q : VK), Inv X pins σ H s → RelV o ov → RelV i iv → t o i H Q →
    wpAny (model X.prog X.w) X.A (getItem ov iv) (EP X pins σ Q) X.xe s
/-- ints -/
def ipI (f : Int → Int → Int) : TIp := fun x y H Q => ∃ i j, x = .int i ∧ y = .int j ∧ Q (.int (f i j)) H
end

/-! ### while -/
section
variable {X : Cx} {pos : Pos}
/-- the invariant W with its measure -/
def tWhile (c : TT) (tb : TS) : TS := fun D σ H => ∃ W : Nat → St → Hp → Prop, (∃ m, W m σ H) ∧ ∀ m σ H, W m σ H →
  c σ H fun b H1 => if b = true then ∃ N : St → Hp → Prop, (∀ σ' H', N σ' H' → ∃ m', m' < m ∧ W m' σ' H') ∧ tb { D with nx := N, ct := N, bk := D.nx } σ H1 else D.nx σ H1
end

/-! ### what a loop or a comprehension walks -/
/-- at turn i: it yields x (the heap may grow), or it stops -/
structure It where
  go : Nat → Hp → Prop
  yld : Nat → Hp → V → Hp → Prop
  stop : Nat → Hp → Prop
/-- the iterator's own objects may turn: they are not the frame's, not pinned, younger than the entry (or a comprehension's own) -/
def FpOk (X : Cx) (pins : List (Addr × Obj)) (H : Hp) (b : Addr) : Prop :=
  H b = none ∧ b ≠ X.env.locals ∧ b ∉ X.fs ∧ (b ∈ X.ex ∨ X.s₀.heap.objs.size ≤ b) ∧ (∀ x c, X.env.cells.lookup x = some c → c ≠ b) ∧ ∀ p ∈ X.pn ++ pins, p.1 ≠ b
theorem Inv.fpOk {X : Cx} {pins : List (Addr × Obj)} {σ : St} {H H' : Hp} {s : Shared} {b : Addr} (I : Inv X pins σ H s) (hb : s.heap.objs.size ≤ b) (hn : H' b = none) : FpOk X pins H' b := by
  refine ⟨hn, Nat.ne_of_gt (Nat.lt_of_lt_of_le I.lt hb), I.nofs hb, .inr (Nat.le_trans I.sz hb), fun x c e z => ?_, fun p hp z => ?_⟩
  · obtain ⟨v, q⟩ := I.cell x c e
    exact absurd (Nat.lt_of_lt_of_le q.lt (by rw [z]; exact hb)) (Nat.lt_irrefl _)
  · exact absurd (Nat.lt_of_lt_of_le (Heap.lt_size (I.pin p hp).1) (by rw [z]; exact hb)) (Nat.lt_irrefl _)
structure Turn (P : Program) (w : World) (K : PySem.W.Frag) (tg : Expr) (J : It) (fp : List Addr) (it : Addr) (tn : Nat → Heap → Prop) : Prop where
  mem : it ∈ fp
  obj : ∀ i h, tn i h → ∀ b ∈ fp, ∃ o, h.get? b = some o ∧ ∀ v, o.data ≠ .cell v
  keep : ∀ i h h', tn i h → (∀ b ∈ fp, ∀ o, h.get? b = some o → h'.get? b = some o) → tn i h'
  item : ∀ (X : Cx), X.prog = P → X.w = w → X.K = K → X.calm = true → ∀ (i : Nat) (pins : List (Addr × Obj)) (s : Shared) (σ : St) (H : Hp) (E : Value → Shared → Prop), Inv X pins σ H s → (∀ b ∈ fp, FpOk X pins H b) → tn i s.heap → J.go i H →
    wpAny (model P w) X.A (pyNext (.ref it)) (fun r s1 => ∃ u, r = some u ∧
      wpAny (model P w) X.A (letOwnedTupleGo tg (.ref it) u) (fun _ s2 => ∃ x H', Inv X pins σ H' s2 ∧ RelV x u ∧ J.yld i H x H' ∧ tn (i + 1) s2.heap ∧ ∀ b ∈ fp, H' b = none) E s1) E s
  done : ∀ (X : Cx), X.prog = P → X.w = w → X.K = K → X.calm = true → ∀ (i : Nat) (pins : List (Addr × Obj)) (s : Shared) (σ : St) (H : Hp) (E : Value → Shared → Prop), Inv X pins σ H s → (∀ b ∈ fp, FpOk X pins H b) → tn i s.heap → J.stop i H →
    wpAny (model P w) X.A (pyNext (.ref it)) (fun r s1 => r = none ∧ Inv X pins σ H s1) E s
  self : ∀ (A : Around) (i : Nat) (s : Shared) (Q : Value → Shared → Prop) (E : Value → Shared → Prop), tn i s.heap → Q (.ref it) s → wpAny (model P w) A (pyIter (.ref it)) Q E s
abbrev TI := St → Hp → (It → Hp → Prop) → Prop
/-- an iterator has come -/
def PIE (X : Cx) (pins : List (Addr × Obj)) (σ : St) (tg : Expr) (R : It → Hp → Prop) (itv : Value) (s2 : Shared) : Prop :=
  ∃ (it : Addr) (fp : List Addr) (tn : Nat → Heap → Prop) (J : It) (H' : Hp), itv = .ref it ∧ Inv X pins σ H' s2 ∧ Turn X.prog X.w X.K tg J fp it tn ∧ tn 0 s2.heap ∧ (∀ b ∈ fp, FpOk X pins H' b) ∧ R J H'
def PI (X : Cx) (tg iter : Expr) (wi : TI) : Prop :=
  ∀ (pins : List (Addr × Obj)) (s : Shared) (σ : St) (H : Hp) (R : It → Hp → Prop), Inv X pins σ H s → wi σ H R →
    wpAny (model X.prog X.w) X.A (eval iter X.env) (fun v s1 => wpAny (model X.prog X.w) X.A (pyIter v) (PIE X pins σ tg R) X.xe s1) X.xe s

/-- the step ahead of the store is nothing for an iterator that keeps no tuple -/
theorem go_of {M : Model} {A : Around} {E : Value → Shared → Prop} {s : Shared} {tg : Expr} {it : Addr} {u : Value} {o : Obj} {n : String} {vs : Array Value} {Q : Unit → Shared → Prop} (ho : s.heap.get? it = some o) (hc : o.cls = .type n) (hd : o.data = .fields vs)
    (hn : ["enumerate", "zip", "dict_itemiterator", "dict_reverseitemiterator", "odict_iterator", "itertools.zip_longest", "itertools.pairwise"].contains n = false) (hQ : Q () s) : wpAny M A (letOwnedTupleGo tg (.ref it) u) Q E s := by
  unfold letOwnedTupleGo
  cases tg <;> first
    | exact wpAny_pure hQ
    | (cases u <;> first
        | exact wpAny_pure hQ
        | (refine wpAny_bind (wpAny_load ho ?_)
           rw [hc, hd]
           show wpAny M A (if (["enumerate", "zip", "dict_itemiterator", "dict_reverseitemiterator", "odict_iterator", "itertools.zip_longest", "itertools.pairwise"].contains n && vs[0]? == some (rawInt _)) = true then _ else _) Q E s
           rw [if_neg (by intro h; rw [hn, Bool.false_and] at h; cases h)]
           exact wpAny_pure hQ))

/-- the list at a, as it stands at each turn (a loop may append to it) -/
def Itl (K : PySem.W.Frag) (a : Addr) : It :=
  ⟨fun i H => ∃ xs x, SqL K H a xs ∧ xs[i]? = some x, fun i H x H' => H' = H ∧ ∀ xs, SqL K H a xs → xs[i]? = some x, fun i H => ∃ xs, SqL K H a xs ∧ xs.length ≤ i⟩
def Itt (K : PySem.W.Frag) (a : Addr) : It :=
  ⟨fun i H => ∃ xs x, SqT K H a xs ∧ xs[i]? = some x, fun i H x H' => H' = H ∧ ∀ xs, SqT K H a xs → xs[i]? = some x, fun i H => ∃ xs, SqT K H a xs ∧ xs.length ≤ i⟩
/-- lo, lo + 1, .. (n of them) -/
def Itr (lo : Int) (n : Nat) : It := ⟨fun i _ => i < n, fun i H x H' => H' = H ∧ x = .int (lo + i), fun i _ => n ≤ i⟩
theorem turn_list {P : Program} {w : World} {K : PySem.W.Frag} {tg : Expr} (a it : Addr) : Turn P w K tg (Itl K a) [it] it (fun i h => h.IsListIter it a i) where
  mem := by simp
  obj := fun i h st b hb => by
    have e : b = it := by simpa using hb
    subst e
    obtain ⟨o, e, c, d⟩ := st
    exact ⟨o, e, fun v z => by rw [d] at z; cases z⟩
  keep := fun i h h' st k => st.at fun o e => k it (by simp) o e
  item := by
    intro X hP hw hK hc i pins s σ H E I hf st hg
    subst hP hw hK
    obtain ⟨xs, x, hq, hx⟩ := hg
    obtain ⟨its, rv, p, hz⟩ := I.list hq
    obtain ⟨u, hu, ru⟩ := rv.get hx
    obtain ⟨f0, f1, f2, f3, f4, f5⟩ := hf it (by simp)
    refine wpAny_pyNext_list_item st p.isList (x := u) (by simpa using hu) fun h' st' sb => ?_
    have I1 : Inv X pins σ H { s with heap := h' } := I.turned (t' := s.toks) (fun b o hb e => (sb.2 b hb).trans e) f0 f1 f3 f4 f5
    obtain ⟨o, e, c, d⟩ := id st'
    exact ⟨u, rfl, go_of (s := { s with heap := h' }) e c d (by decide) ⟨x, H, I1, ru, ⟨rfl, fun ys hy => by rw [I.list_inj hy hq]; exact hx⟩, st', fun b hb => (hf b hb).1⟩⟩
  done := by
    intro X hP hw hK hc i pins s σ H E I hf st hg
    subst hP hw hK
    obtain ⟨xs, hq, hx⟩ := hg
    obtain ⟨its, rv, p, hz⟩ := I.list hq
    obtain ⟨f0, f1, f2, f3, f4, f5⟩ := hf it (by simp)
    have hl := rv.length
    exact wpAny_pyNext_list_end (I.ok.hd hc) st p.isList (by simp; omega) fun h' eb => ⟨rfl, I.turned (t' := s.toks) (fun b o hb e => eb b o hb e) f0 f1 f3 f4 f5⟩
  self := fun _ _ _ _ _ st h => wpAny_pyIter_listiter st h
theorem turn_range {P : Program} {w : World} {K : PySem.W.Frag} {tg : Expr} (it : Addr) (lo : Int) (n : Nat) : Turn P w K tg (Itr lo n) [it] it (fun i h => IsRangeIter h it (lo + (i : Nat) * 1) ((n : Int) - (i : Nat)) 1) where
  mem := by simp
  obj := fun i h st b hb => by
    have e : b = it := by simpa using hb
    subst e
    exact ⟨_, st, fun v z => by
      have z' : Data.fields _ = Data.cell v := z
      cases z'⟩
  keep := fun i h h' st k => k it (by simp) _ st
  item := by
    intro X hP hw hK hc i pins s σ H E I hf st hg
    subst hP hw hK
    obtain ⟨f0, f1, f2, f3, f4, f5⟩ := hf it (by simp)
    have W := Walks.range (prog := X.prog) (w := X.w) (I.ok.hd hc) it lo 1 n
    refine W.item i s _ _ hg st fun v h' tk hv st' kk => ?_
    obtain ⟨t, rfl⟩ := hv
    have I1 : Inv X pins σ H { s with heap := h', toks := tk } := I.turned (fun b o hb e => kk b o (by simpa using hb) e) f0 f1 f3 f4 f5
    refine ⟨_, rfl, go_of (s := { s with heap := h', toks := tk }) (n := "range_iterator") st' rfl rfl (by decide) ⟨.int (lo + i), H, I1, ⟨t, ?_⟩, ⟨rfl, rfl⟩, st', fun b hb => (hf b hb).1⟩⟩
    rw [Int.mul_one]
  done := by
    intro X hP hw hK hc i pins s σ H E I hf st hg
    subst hP hw hK
    obtain ⟨f0, f1, f2, f3, f4, f5⟩ := hf it (by simp)
    exact wpAny_pyNext_range_end (I.ok.hd hc) st (by have : n ≤ i := hg; omega) fun h' eb => ⟨rfl, I.turned (t' := s.toks) (fun b o hb e => eb b o hb e) f0 f1 f3 f4 f5⟩
  self := fun _ _ _ _ _ st h => wpAny_pyIter_rangeiter st h
end L2

namespace L2
open PySem PySem.Spec PyProof.Rows
section
variable {X : Cx} {tg : Expr}
def iList (K : PySem.W.Frag) (tl : TE) : TI := fun σ H R => tl σ H fun x H1 => ∃ a, x = .ref a ∧ (∃ xs, SqL K H1 a xs) ∧ R (Itl K a) H1
def iTup (K : PySem.W.Frag) (tl : TE) : TI := fun σ H R => tl σ H fun x H1 => ∃ a, x = .ref a ∧ (∃ xs, SqT K H1 a xs) ∧ R (Itt K a) H1
theorem pi_list {l : Expr} {tl : TE} (hl : PE X l tl) : PI X tg l (iList X.K tl) := by
  intro pins s σ H R I h
  refine thn (hl pins s σ H _ I h) fun v s1 ⟨x, H1, I1, r1, q1⟩ => ?_
  obtain ⟨a, e, ⟨xs, hq⟩, q⟩ := q1
  subst e
  cases r1
  obtain ⟨its, rv, p, hz⟩ := I1.list hq
  refine wpAny_pyIter_list p.isList ?_
  refine ⟨s1.heap.objs.size, [s1.heap.objs.size], _, _, H1, rfl, I1.kept (t' := s1.toks) fun b o e => Heap.get?_push_of_some _ e, turn_list a _, ⟨_, Heap.get?_push_size _ rfl, rfl, rfl⟩, fun b hb => ?_, q⟩
  have e : b = s1.heap.objs.size := by simpa using hb
  subst e
  exact I1.fpOk (Nat.le_refl _) (I1.hok.fresh (Nat.le_refl _))
/-- a range object just made, walked -/
theorem range_it {pins : List (Addr × Obj)} {σ : St} {H : Hp} {s : Shared} {R : It → Hp → Prop} {E : Value → Shared → Prop} {lo hi : Int} {t u v : Tok} {tk : Nat} (I : Inv X pins σ H s) (h1 : -(2 ^ 62) ≤ lo) (h2 : lo < 2 ^ 62) (h3 : -(2 ^ 62) ≤ hi) (h4 : hi < 2 ^ 62)
    (q : R (Itr lo (hi - lo).toNat) H) : wpAny (model X.prog X.w) X.A (pyIter (.ref s.heap.objs.size)) (PIE X pins σ tg R) E { s with heap := s.heap.push { cls := .type "range", data := .fields #[.int lo t, .int hi u, .int 1 v] }, toks := tk } := by
  refine wpAny_pyIter_range (IsRange.new ..) (small_one h1 h2 h3 h4) ?_
  have I1 : Inv X pins σ H { s with heap := s.heap.push { cls := .type "range", data := .fields #[.int lo t, .int hi u, .int 1 v] }, toks := tk } := I.kept fun b o e => Heap.get?_push_of_some _ e
  refine ⟨(s.heap.push { cls := .type "range", data := .fields #[.int lo t, .int hi u, .int 1 v] }).objs.size, [(s.heap.push { cls := .type "range", data := .fields #[.int lo t, .int hi u, .int 1 v] }).objs.size], _, _, H, rfl,
    I1.kept (t' := tk) fun b o e => Heap.get?_push_of_some _ e, turn_range _ lo (hi - lo).toNat, ?_, fun b hb => ?_, q⟩
  · have e1 : lo + ((0 : Nat) : Int) * 1 = lo := by simp
    have e2 : (((hi - lo).toNat : Nat) : Int) - ((0 : Nat) : Int) = Builtin.Range.rangeSize lo hi 1 := by rw [rangeSize_one]; split <;> omega
    show IsRangeIter _ _ (lo + ((0 : Nat) : Int) * 1) ((((hi - lo).toNat : Nat) : Int) - ((0 : Nat) : Int)) 1
    rw [e1, e2]
    exact Heap.get?_push_size _ rfl
  · have e : b = (s.heap.push { cls := .type "range", data := .fields #[.int lo t, .int hi u, .int 1 v] }).objs.size := by simpa using hb
    subst e
    exact I1.fpOk (Nat.le_refl _) (I1.hok.fresh (Nat.le_refl _))
def iRng1 (ta : TA) : TI := fun σ H R => ta σ H fun vs H1 => ∃ j : Int, vs = [.int j] ∧ -(2 ^ 62) ≤ j ∧ j < 2 ^ 62 ∧ R (Itr 0 j.toNat) H1
def iRng2 (ta : TA) : TI := fun σ H R => ta σ H fun vs H1 => ∃ i j : Int, vs = [.int i, .int j] ∧ (-(2 ^ 62) ≤ i ∧ i < 2 ^ 62 ∧ -(2 ^ 62) ≤ j ∧ j < 2 ^ 62) ∧ R (Itr i (j - i).toNat) H1
theorem pi_range1 {a : Expr} {ta : TA} {p pos : Pos} (hg : Gl X "range") (hm : X.mg "range" = none) (ha : PA X [a] ta) (hs : starEach [a] X.env = [(false, eval a X.env)] := by rfl) : PI X tg (.Call (.Name "range" p) [a] [] pos) (iRng1 ta) := by
  intro pins s σ H R I h
  refine Call_ (ld_blt I hg hm boot_range (PyProof.Rows.callWith_type1 (thn (ha pos pins s σ H _ I h) fun us s1 ⟨vs, H1, I1, r1, q1⟩ => ?_) hs rfl))
  obtain ⟨j, e, q1, q2, q⟩ := q1
  subst e
  cases r1 with
  | cons r rr =>
    cases rr
    obtain ⟨t, rfl⟩ := r
    exact call_range_1 (range_it I1 (by omega) (by omega) q1 q2 (by simpa using q))
/-! ### for -/
/-- W: the invariant by the turn and a measure; N: what the body is to reach -/
def tFor (wi : TI) (g : TG) (tb : TS) : TS := fun D σ H => wi σ H fun J H1 => ∃ W : Nat → Nat → St → Hp → Prop, (∃ m, W 0 m σ H1) ∧ ∀ i m σ H, W i m σ H →
  (J.stop i H ∧ D.nx σ H) ∨ (J.go i H ∧ ∃ N : St → Hp → Prop, (∀ σ' H', N σ' H' → ∃ m', m' < m ∧ W (i + 1) m' σ' H') ∧ ∀ x H', J.yld i H x H' → g x σ H' fun σ2 H2 => tb { D with nx := N, ct := N, bk := D.nx } σ2 H2)
/-- the records at fp as they stand -/
def pinsAt (fp : List Addr) (h : Heap) : List (Addr × Obj) := fp.filterMap fun b => (h.get? b).map fun o => (b, o)
theorem mem_pinsAt {fp : List Addr} {h : Heap} {b : Addr} {o : Obj} (hb : b ∈ fp) (e : h.get? b = some o) : (b, o) ∈ pinsAt fp h := List.mem_filterMap.mpr ⟨b, hb, by rw [e]; rfl⟩
theorem of_pinsAt {fp : List Addr} {h : Heap} {p : Addr × Obj} (hp : p ∈ pinsAt fp h) : p.1 ∈ fp ∧ h.get? p.1 = some p.2 := by
  obtain ⟨b, hb, e⟩ := List.mem_filterMap.mp hp
  cases q : h.get? b with
  | none => rw [q] at e; cases e
  | some o =>
    rw [q] at e
    have e' : (b, o) = p := Option.some.inj e
    subst e'
    exact ⟨hb, q⟩
theorem Inv.pinned {pins : List (Addr × Obj)} {σ : St} {H : Hp} {s : Shared} {fp : List Addr} (I : Inv X pins σ H s) (hf : ∀ b ∈ fp, FpOk X pins H b) (ho : ∀ b ∈ fp, ∃ o, s.heap.get? b = some o ∧ ∀ v, o.data ≠ .cell v) : Inv X (pins ++ pinsAt fp s.heap) σ H s :=
  I.pins_of fun p hp => (List.mem_append.mp hp).elim (fun z => I.pin p (List.mem_append_right _ z)) fun z => by
    obtain ⟨hb, e⟩ := of_pinsAt z
    obtain ⟨f0, f1, f2, _⟩ := hf p.1 hb
    obtain ⟨o, e', d⟩ := ho p.1 hb
    rw [e] at e'; cases e'
    exact ⟨e, f0, f1, f2, d⟩
theorem Inv.unpinned {pins pl : List (Addr × Obj)} {σ : St} {H : Hp} {s : Shared} (I : Inv X (pins ++ pl) σ H s) : Inv X pins σ H s := I.pins_of fun p hp => I.pin p (List.mem_append_right _ (List.mem_append_left _ hp))
theorem ps_for {iter : Expr} {body : List Stmt} {wi : TI} {g : TG} {tb : TS} {pos : Pos} (hp : PassesOwn (model X.prog X.w) X.A X.env X.xe) (hc : X.calm = true) (hi : PI X tg iter wi) (hg : PG X tg g) (hb : PSs X body tb)
    (hs : ∀ x, foldedSetIterable iter X.env x = pure x := by intro _; rfl) : PS X (.For tg iter body [] pos) (tFor wi g tb) := by
  intro pins s σ H D I h
  refine wpAny_For (thn (hi pins s σ H _ I h) fun v s1 h1 => thn h1 fun itv s2 h2 => ?_) hs
  obtain ⟨it, fp, tn, J, H2, e, I2, T, st2, f2, W, ⟨m0, w0⟩, turn⟩ := h2
  subst e
  -- what stays true of the iterator's objects through the loop
  have stat : ∀ {H' : Hp}, (∀ b ∈ fp, H' b = none) → ∀ b ∈ fp, FpOk X pins H' b := fun hn b hb => ⟨hn b hb, (f2 b hb).2⟩
  refine codeAny_forLoop_any (fun n s' => ∃ i σ' H', Inv X pins σ' H' s' ∧ tn i s'.heap ∧ (∀ b ∈ fp, H' b = none) ∧ W i n σ' H') ?_ m0 ⟨0, σ, H2, I2, st2, fun b hb => (f2 b hb).1, w0⟩
  rintro n s3 ⟨i, σ3, H3, I3, st3, fr3, w3⟩
  rcases turn i n σ3 H3 w3 with ⟨stop, qn⟩ | ⟨go, N, hN, step⟩
  · refine wpAny_passesOwn hp (thn (T.done X rfl rfl rfl hc i pins s3 σ3 H3 X.xe I3 (stat fr3) st3 stop) fun r s4 ⟨hr, I4⟩ => ?_)
    subst hr
    exact wpAny_execs_nil ⟨σ3, H3, I4, qn⟩
  · refine wpAny_passesOwn hp (thn (T.item X rfl rfl rfl hc i pins s3 σ3 H3 X.xe I3 (stat fr3) st3 go) fun r s4 ⟨u, hr, h4⟩ => ?_)
    subst hr
    refine wpAny_passesOwn hp (thn h4 fun _ s5 ⟨x, H5, I5, r5, y5, st5, fr5⟩ => ?_)
    have I5' := I5.pinned (stat fr5) (T.obj _ _ st5)
    refine wpAny_passesOwn hp (thn (hg _ s5 σ3 H5 x u _ I5' r5 (step x H5 y5)) fun _ s6 ⟨σ6, H6, I6, q6⟩ => ?_)
    refine wpAny_passesOwn hp (thn (hb _ s6 σ6 H6 _ I6 q6) fun f s7 q7 => ?_)
    have again : ∀ {σ7 : St} {H7 : Hp}, Inv X (pins ++ pinsAt fp s5.heap) σ7 H7 s7 → N σ7 H7 → ∃ m, m < n ∧ ∃ i σ' H', Inv X pins σ' H' s7 ∧ tn i s7.heap ∧ (∀ b ∈ fp, H' b = none) ∧ W i m σ' H' := fun {σ7 H7} I7 n7 => by
      obtain ⟨m', hm, w7⟩ := hN σ7 H7 n7
      refine ⟨m', hm, i + 1, σ7, H7, I7.unpinned, T.keep _ _ _ st5 fun b hb o e => (I7.pin (b, o) (List.mem_append_right _ (List.mem_append_right _ (mem_pinsAt hb e)))).1, fun b hb => ?_, w7⟩
      obtain ⟨o, e, d⟩ := T.obj _ _ st5 b hb
      exact (I7.pin (b, o) (List.mem_append_right _ (List.mem_append_right _ (mem_pinsAt hb e)))).2.1
    cases f with
    | next => obtain ⟨σ7, H7, I7, n7⟩ := q7; exact again I7 n7
    | cont => obtain ⟨σ7, H7, I7, n7⟩ := q7; exact again I7 n7
    | brk => obtain ⟨σ7, H7, I7, q7⟩ := q7; exact ⟨σ7, H7, I7.unpinned, q7⟩
    | ret v => obtain ⟨x7, σ7, H7, I7, r7, q7⟩ := q7; exact ⟨x7, σ7, H7, I7.unpinned, r7, q7⟩
end

/-! ### the forms one uses -/
theorem for_range {lo : Int} {n : Nat} {g : TG} {tb : TS} {D : Ends} {σ : St} {H : Hp} (Pv : Nat → St → Hp → Prop) (h0 : Pv 0 σ H)
    (hs : ∀ i σ H, i < n → Pv i σ H → g (.int (lo + i)) σ H fun σ2 H2 => tb { D with nx := Pv (i + 1), ct := Pv (i + 1), bk := D.nx } σ2 H2) (hd : ∀ σ H, Pv n σ H → D.nx σ H) :
    ∃ W : Nat → Nat → St → Hp → Prop, (∃ m, W 0 m σ H) ∧ ∀ i m σ H, W i m σ H →
      ((Itr lo n).stop i H ∧ D.nx σ H) ∨ ((Itr lo n).go i H ∧ ∃ N : St → Hp → Prop, (∀ σ' H', N σ' H' → ∃ m', m' < m ∧ W (i + 1) m' σ' H') ∧ ∀ x H', (Itr lo n).yld i H x H' → g x σ H' fun σ2 H2 => tb { D with nx := N, ct := N, bk := D.nx } σ2 H2) := by
  refine ⟨fun i m σ H => m = n - i ∧ i ≤ n ∧ Pv i σ H, ⟨n, by simp, Nat.zero_le _, h0⟩, ?_⟩
  rintro i m σ H ⟨rfl, hi, p⟩
  by_cases hlt : i < n
  · refine .inr ⟨hlt, Pv (i + 1), fun σ' H' p' => ⟨n - (i + 1), by omega, rfl, hlt, p'⟩, fun x H' y => ?_⟩
    obtain ⟨e, y⟩ := y
    subst e y
    exact hs i σ _ hlt p
  · have e : i = n := by omega
    subst e
    exact .inl ⟨Nat.le_refl _, hd σ H p⟩
end L2

namespace L2
open PySem PySem.Spec PyProof.Rows

abbrev R2 := V → V → Hp → VK → Prop
/-- a two-place operation on values: f is binaryOp op, inplaceOp op or compareOp op -/
def OpR (X : Cx) (f : Value → Value → Sem Value) (r : R2) : Prop :=
  ∀ (pins : List (Addr × Obj)) (s : Shared) (σ : St) (H : Hp) (x y : V) (v u : Value) (Q : VK), Inv X pins σ H s → RelV x v → RelV y u → r x y H Q →
    wpAny (model X.prog X.w) X.A (f v u) (EP X pins σ Q) X.xe s
/-- a one-place operation -/
def UnR (X : Cx) (f : Value → Sem Value) (r : V → Hp → VK → Prop) : Prop :=
  ∀ (pins : List (Addr × Obj)) (s : Shared) (σ : St) (H : Hp) (x : V) (v : Value) (Q : VK), Inv X pins σ H s → RelV x v → r x H Q →
    wpAny (model X.prog X.w) X.A (f v) (EP X pins σ Q) X.xe s
/-- a call of a value that is known (a builtin, a type) with values -/
def CallR (X : Cx) (f : Value) (r : List V → Hp → VK → Prop) : Prop :=
  ∀ (pins : List (Addr × Obj)) (s : Shared) (σ : St) (H : Hp) (xs : List V) (us : List Value) (Q : VK), Inv X pins σ H s → Vals xs us → r xs H Q →
    wpAny (model X.prog X.w) X.A (call f us) (EP X pins σ Q) X.xe s
/-- a value's truth -/
def TruR (X : Cx) (r : V → Hp → (Bool → Hp → Prop) → Prop) : Prop :=
  ∀ (pins : List (Addr × Obj)) (s : Shared) (σ : St) (H : Hp) (x : V) (v : Value) (Q : Bool → Hp → Prop), Inv X pins σ H s → RelV x v → r x H Q →
    wpAny (model X.prog X.w) X.A (truthy v) (TP X pins σ Q) X.xe s

def tOp (r : R2) (ta tb : TE) : TE := fun σ H Q => ta σ H fun x H1 => tb σ H1 fun y H2 => r x y H2 Q
def tUn (r : V → Hp → VK → Prop) (ta : TE) : TE := fun σ H Q => ta σ H fun x H1 => r x H1 Q
/-- ints in, under C, and a value out -/
def rI (C : Int → Int → Prop) (g : Int → Int → V) : R2 := fun x y H Q => ∃ i j, x = .int i ∧ y = .int j ∧ C i j ∧ Q (g i j) H
def rI0 (g : Int → Int → V) : R2 := fun x y H Q => ∃ i j, x = .int i ∧ y = .int j ∧ Q (g i j) H
def rU (g : Int → V) : V → Hp → VK → Prop := fun x H Q => ∃ i, x = .int i ∧ Q (g i) H

section
variable {X : Cx} {a b c : Expr} {ta tb tc : TE} {pos : Pos}

theorem binT (ha : PE X a ta) (hb : PE X b tb) {pins : List (Addr × Obj)} {s : Shared} {σ : St} {H : Hp} {R : V → V → Hp → Prop} (I : Inv X pins σ H s)
    (h : ta σ H fun x H1 => tb σ H1 fun y H2 => R x y H2) {Q : Value → Shared → Prop} {f : Value → Value → Sem Value}
    (hf : ∀ v u s2 x y H2, Inv X pins σ H2 s2 → RelV x v → RelV y u → R x y H2 → wpAny (model X.prog X.w) X.A (f v u) Q X.xe s2) :
    wpAny (model X.prog X.w) X.A (eval a X.env) (fun v s₁ => wpAny (model X.prog X.w) X.A (eval b X.env) (fun u s₂ => wpAny (model X.prog X.w) X.A (f v u) Q X.xe s₂) X.xe s₁) X.xe s := by
  refine thn (ha pins s σ H _ I h) fun v s1 ⟨x, H1, I1, r1, q1⟩ => ?_
  refine thn (hb pins s1 σ H1 _ I1 q1) fun u s2 ⟨y, H2, I2, r2, q2⟩ => ?_
  exact hf v u s2 x y H2 I2 r1 r2 q2

theorem pe_op {op : Operator} {r : R2} (ho : OpR X (binaryOp op) r) (ha : PE X a ta) (hb : PE X b tb) : PE X (.BinOp a op b pos) (tOp r ta tb) := by
  intro pins s σ H Q I h
  exact wpAny_BinOp (binT ha hb I h fun v u s2 x y H2 I2 rx ry q => ho pins s2 σ H2 x y v u Q I2 rx ry q)
theorem pe_un {op : UnaryOp} {r : V → Hp → VK → Prop} (ho : UnR X (unaryOp op) r) (ha : PE X a ta) : PE X (.UnaryOp op a pos) (tUn r ta) := by
  intro pins s σ H Q I h
  exact UnaryOp_ (thn (ha pins s σ H _ I h) fun v s1 ⟨x, H1, I1, r1, q1⟩ => ho pins s1 σ H1 x v Q I1 r1 q1)
/-! ### ints -/
theorem opI {f : Value → Value → Sem Value} {C : Int → Int → Prop} {g : Int → Int → Int}
    (rule : ∀ (i j : Int) (t u : Tok) (s : Shared) (Q : Value → Shared → Prop) (E : Value → Shared → Prop), C i j → Q (.int (g i j) s.toks) { s with toks := s.toks + 1 } → wpAny (model X.prog X.w) X.A (f (.int i t) (.int j u)) Q E s) :
    OpR X f (rI C fun i j => .int (g i j)) := by
  intro pins s σ H x y v u Q I rx ry h
  obtain ⟨i, j, rfl, rfl, hc, q⟩ := h
  obtain ⟨t, rfl⟩ := rx
  obtain ⟨t', rfl⟩ := ry
  exact rule i j t t' s _ _ hc ⟨.int (g i j), H, I.tok _, ⟨_, rfl⟩, q⟩
theorem opI0 {f : Value → Value → Sem Value} {g : Int → Int → Int}
    (rule : ∀ (i j : Int) (t u : Tok) (s : Shared) (Q : Value → Shared → Prop) (E : Value → Shared → Prop), Q (.int (g i j) s.toks) { s with toks := s.toks + 1 } → wpAny (model X.prog X.w) X.A (f (.int i t) (.int j u)) Q E s) :
    OpR X f (rI0 fun i j => .int (g i j)) := by
  intro pins s σ H x y v u Q I rx ry h
  obtain ⟨i, j, rfl, rfl, q⟩ := h
  obtain ⟨t, rfl⟩ := rx
  obtain ⟨t', rfl⟩ := ry
  exact rule i j t t' s _ _ ⟨.int (g i j), H, I.tok _, ⟨_, rfl⟩, q⟩
theorem opB0 {f : Value → Value → Sem Value} {g : Int → Int → Bool}
    (rule : ∀ (i j : Int) (t u : Tok) (s : Shared) (Q : Value → Shared → Prop) (E : Value → Shared → Prop), Q (.bool (g i j)) s → wpAny (model X.prog X.w) X.A (f (.int i t) (.int j u)) Q E s) :
    OpR X f (rI0 fun i j => .bl (g i j)) := by
  intro pins s σ H x y v u Q I rx ry h
  obtain ⟨i, j, rfl, rfl, q⟩ := h
  obtain ⟨t, rfl⟩ := rx
  obtain ⟨t', rfl⟩ := ry
  exact rule i j t t' s _ _ ⟨.bl (g i j), H, I, rfl, q⟩

def CDiv (i j : Int) : Prop := 0 < j ∧ j < 1073741824
def CDivN (i j : Int) : Prop := j ≠ 0 ∧ j.natAbs < 1073741824
def CPow (i j : Int) : Prop := 0 ≤ j ∧ j ≤ 1000000 ∧ i.natAbs < 2 ^ 64
def CMul (i j : Int) : Prop := (-(2 ^ 64) < i ∧ i < 2 ^ 64) ∨ (-(2 ^ 64) < j ∧ j < 2 ^ 64)
theorem two_pow_nn (k : Nat) : (0 : Int) ≤ 2 ^ k := by
  rw [two_pow_cast]
  exact Int.natCast_nonneg _

theorem op_add : OpR X (binaryOp .Add) (rI0 fun i j => .int (i + j)) := opI0 fun _ _ _ _ _ _ _ q => add_int q
theorem op_sub : OpR X (binaryOp .Sub) (rI0 fun i j => .int (i - j)) := opI0 fun _ _ _ _ _ _ _ q => sub_int q
/-- % by a positive divisor of any size -/
theorem op_mod : OpR X (binaryOp .Mod) (rI (fun _ j => 0 < j) fun i j => .int (i % j)) := opI fun i j _ _ _ _ _ hc q => by
  have h1 : (0 : Int) < j := hc
  exact mod_int' (by omega) (by rw [Int.fmod_eq_emod_of_nonneg i (by omega)]; exact q)
theorem op_pow : OpR X (binaryOp .Pow) (rI CPow fun i j => .int (i ^ j.toNat)) := opI fun _ _ _ _ _ _ _ hc q => pow_int_small hc.1 hc.2.1 hc.2.2 q
theorem op_shr : OpR X (binaryOp .RShift) (rI (fun _ j => 0 ≤ j) fun i j => .int (i / 2 ^ j.toNat)) := opI fun i j _ _ _ _ _ hc q =>
  rshift_int hc (by rw [Int.fdiv_eq_ediv_of_nonneg i (two_pow_nn _)]; exact q)
theorem op_and : OpR X (binaryOp .BitAnd) (rI0 fun i j => .int (Builtin.bitAnd i j)) := opI0 fun _ _ _ _ _ _ _ q => and_int q
theorem unI {f : Value → Sem Value} {g : Int → Int}
    (rule : ∀ (i : Int) (t : Tok) (s : Shared) (Q : Value → Shared → Prop) (E : Value → Shared → Prop), Q (.int (g i) s.toks) { s with toks := s.toks + 1 } → wpAny (model X.prog X.w) X.A (f (.int i t)) Q E s) :
    UnR X f (rU fun i => .int (g i)) := by
  intro pins s σ H x v Q I rx h
  obtain ⟨i, rfl, q⟩ := h
  obtain ⟨t, rfl⟩ := rx
  exact rule i t s _ _ ⟨.int (g i), H, I.tok _, ⟨_, rfl⟩, q⟩
theorem un_neg : UnR X (unaryOp .USub) (rU fun i => .int (-i)) := unI fun _ _ _ _ _ q => neg_int q
/-! ### bools among ints: n += (a < b) -/
end

/-! ### comparisons -/
/-- the scalars that == tells apart as data does -/
def scal : V → V → Bool
  | .non, .non => true | .non, .int _ => true | .int _, .non => true | .non, .bl _ => true | .bl _, .non => true | .non, .str _ => true | .str _, .non => true
  | .int _, .int _ => true | .bl _, .bl _ => true | .str _, .str _ => true | .byt _, .byt _ => true
  | .int _, .str _ => true | .str _, .int _ => true | .bl _, .str _ => true | .str _, .bl _ => true
  | _, _ => false
def rEq : R2 := fun x y H Q => scal x y = true ∧ Q (.bl (decide (x = y))) H
def rNe : R2 := fun x y H Q => scal x y = true ∧ Q (.bl (!decide (x = y))) H

theorem dec_int {i j : Int} : decide (V.int i = V.int j) = (i == j) := by
  rw [Bool.eq_iff_iff]
  simp
theorem dec_bl {i j : Bool} : decide (V.bl i = V.bl j) = (i == j) := by
  rw [Bool.eq_iff_iff]
  simp
theorem dec_str {i j : Str} : decide (V.str i = V.str j) = (i == j) := by
  rw [Bool.eq_iff_iff]
  simp
theorem dec_byt {i j : Array UInt8} : decide (V.byt i = V.byt j) = (i.toList == j.toList) := by
  rw [Bool.eq_iff_iff]
  cases i
  cases j
  simp

section
variable {X : Cx} {a b c : Expr} {ta tb tc : TE} {pos : Pos}
theorem fin_bl {pins : List (Addr × Obj)} {σ : St} {H : Hp} {s : Shared} {Q : VK} {k k' : Bool} (I : Inv X pins σ H s) (q : Q (.bl k) H) (e : k = k') : EP X pins σ Q (.bool k') s := by
  subst e
  exact ⟨.bl k, H, I, rfl, q⟩
theorem op_eq : OpR X (compareOp .Eq) rEq := by
  intro pins s σ H x y v u Q I rx ry h
  obtain ⟨hs, q⟩ := h
  cases x with
  | non =>
    cases rx
    cases y with
    | non => cases ry; exact PySem.EqNone.eq_none_none (fin_bl I q (by simp))
    | bl j => cases ry; exact PySem.EqNone.eq_none_bool (fin_bl I q (by simp))
    | int j => obtain ⟨t', rfl⟩ := ry; exact PySem.EqNone.eq_none_int (fin_bl I q (by simp))
    | str j => obtain ⟨t', rfl⟩ := ry; exact PySem.EqNone.eq_none_str (fin_bl I q (by simp))
    | _ => exact absurd (show false = true from hs) Bool.false_ne_true
  | bl i =>
    cases rx
    cases y with
    | non => cases ry; exact PySem.EqNone.eq_bool_none (fin_bl I q (by simp))
    | bl j => cases ry; exact eq_bool (fin_bl I q dec_bl)
    | str j => obtain ⟨t', rfl⟩ := ry; exact PySem.EqMixed.eq_bool_str (fin_bl I q (by simp))
    | _ => exact absurd (show false = true from hs) Bool.false_ne_true
  | int i =>
    obtain ⟨t, rfl⟩ := rx
    cases y with
    | non => cases ry; exact PySem.EqNone.eq_int_none (fin_bl I q (by simp))
    | int j => obtain ⟨t', rfl⟩ := ry; exact eq_int (fin_bl I q dec_int)
    | str j => obtain ⟨t', rfl⟩ := ry; exact PySem.EqMixed.eq_int_str (fin_bl I q (by simp))
    | _ => exact absurd (show false = true from hs) Bool.false_ne_true
  | str i =>
    obtain ⟨t, rfl⟩ := rx
    cases y with
    | non => cases ry; exact PySem.EqNone.eq_str_none (fin_bl I q (by simp))
    | bl j => cases ry; exact PySem.EqMixed.eq_str_bool (fin_bl I q (by simp))
    | int j => obtain ⟨t', rfl⟩ := ry; exact PySem.EqMixed.eq_str_int (fin_bl I q (by simp))
    | str j => obtain ⟨t', rfl⟩ := ry; exact eq_str (fin_bl I q dec_str)
    | _ => exact absurd (show false = true from hs) Bool.false_ne_true
  | byt i =>
    obtain ⟨t, rfl⟩ := rx
    cases y with
    | byt j => obtain ⟨t', rfl⟩ := ry; exact PySem.W.eq_bytes (fin_bl I q dec_byt)
    | _ => exact absurd (show false = true from hs) Bool.false_ne_true
  | _ => cases y <;> exact absurd (show false = true from hs) Bool.false_ne_true
theorem op_ne : OpR X (compareOp .NotEq) rNe := by
  intro pins s σ H x y v u Q I rx ry h
  obtain ⟨hs, q⟩ := h
  cases x with
  | non =>
    cases rx
    cases y with
    | non => cases ry; exact PySem.EqNone.ne_none_none (fin_bl I q (by simp))
    | bl j => cases ry; exact PySem.EqNone.ne_none_bool (fin_bl I q (by simp))
    | int j => obtain ⟨t', rfl⟩ := ry; exact PySem.EqNone.ne_none_int (fin_bl I q (by simp))
    | str j => obtain ⟨t', rfl⟩ := ry; exact PySem.EqNone.ne_none_str (fin_bl I q (by simp))
    | _ => exact absurd (show false = true from hs) Bool.false_ne_true
  | bl i =>
    cases rx
    cases y with
    | non => cases ry; exact PySem.EqNone.ne_bool_none (fin_bl I q (by simp))
    | bl j => cases ry; exact ne_bool (fin_bl I q (congrArg not dec_bl))
    | str j => obtain ⟨t', rfl⟩ := ry; exact PySem.EqMixed.ne_bool_str (fin_bl I q (by simp))
    | _ => exact absurd (show false = true from hs) Bool.false_ne_true
  | int i =>
    obtain ⟨t, rfl⟩ := rx
    cases y with
    | non => cases ry; exact PySem.EqNone.ne_int_none (fin_bl I q (by simp))
    | int j => obtain ⟨t', rfl⟩ := ry; exact ne_int (fin_bl I q (congrArg not dec_int))
    | str j => obtain ⟨t', rfl⟩ := ry; exact PySem.EqMixed.ne_int_str (fin_bl I q (by simp))
    | _ => exact absurd (show false = true from hs) Bool.false_ne_true
  | str i =>
    obtain ⟨t, rfl⟩ := rx
    cases y with
    | non => cases ry; exact PySem.EqNone.ne_str_none (fin_bl I q (by simp))
    | bl j => cases ry; exact PySem.EqMixed.ne_str_bool (fin_bl I q (by simp))
    | int j => obtain ⟨t', rfl⟩ := ry; exact PySem.EqMixed.ne_str_int (fin_bl I q (by simp))
    | str j => obtain ⟨t', rfl⟩ := ry; exact ne_str (fin_bl I q (congrArg not dec_str))
    | _ => exact absurd (show false = true from hs) Bool.false_ne_true
  | byt i =>
    obtain ⟨t, rfl⟩ := rx
    cases y with
    | byt j => obtain ⟨t', rfl⟩ := ry; exact PySem.W.ne_bytes (fin_bl I q (congrArg not dec_byt))
    | _ => exact absurd (show false = true from hs) Bool.false_ne_true
  | _ => cases y <;> exact absurd (show false = true from hs) Bool.false_ne_true

theorem op_lt : OpR X (compareOp .Lt) (rI0 fun i j => .bl (decide (i < j))) := opB0 fun _ _ _ _ _ _ _ q => lt_int q
theorem op_le : OpR X (compareOp .LtE) (rI0 fun i j => .bl (decide (i ≤ j))) := opB0 fun _ _ _ _ _ _ _ q => le_int q
theorem op_gt : OpR X (compareOp .Gt) (rI0 fun i j => .bl (decide (j < i))) := opB0 fun _ _ _ _ _ _ _ q => gt_int q
/-- is, is not of two objects that are tracked lists or instances -/
def isObj : HO → Bool
  | .lst _ => true
  | .ins _ _ _ => true
  | _ => false
theorem nomark (b : Expr) {op : CmpOp} (h : op ≠ .In := by decide) (h2 : op ≠ .NotIn := by decide) : behindInMarks op b = false := by
  have e1 : (op == CmpOp.In) = false := by cases op <;> first | rfl | exact absurd rfl h
  have e2 : (op == CmpOp.NotIn) = false := by cases op <;> first | rfl | exact absurd rfl h2
  cases b <;> simp [behindInMarks, e1, e2]
/-- a comparison as a value; hm: nomark b, or (for in, not in) by with_unfolding_all rfl -/
theorem pe_cmpR {op : CmpOp} {r : R2} (ho : OpR X (compareOp op) r) (ha : PE X a ta) (hb : PE X b tb) (hm : behindInMarks op b = false) : PE X (.Compare a [op] [b] pos) (tOp r ta tb) := by
  intro pins s σ H Q I h
  exact wpAny_Compare1 (binT ha hb I h fun v u s2 x y H2 I2 rx ry q => ho pins s2 σ H2 x y v u Q I2 rx ry q) hm
/-- a reading of a value as a test -/
def tTest (t : TE) : TT := fun σ H Q => t σ H fun x H' => ∃ k, x = .bl k ∧ Q k H'
theorem pt_cmpR {op : CmpOp} {r : R2} (ho : OpR X (compareOp op) r) (ha : PE X a ta) (hb : PE X b tb) (hm : behindInMarks op b = false) : PT X (.Compare a [op] [b] pos) (tTest (tOp r ta tb)) := by
  intro pins s σ H Q I h
  refine wpAny_isTrue_Compare1 (thn (ha pins s σ H _ I h) fun v s1 ⟨x, H1, I1, r1, q1⟩ => thn (hb pins s1 σ H1 _ I1 q1) fun u s2 ⟨y, H2, I2, r2, q2⟩ =>
    thn (ho pins s2 σ H2 x y v u _ I2 r1 r2 q2) fun c s3 ⟨z, H3, I3, r3, k, e, q3⟩ => ?_) hm
  subst e
  cases r3
  exact wpAny_truthy_bool ⟨H3, I3, q3⟩
/-- a op1 b op2 c -/
def tChain (r r' : R2) (ta tb tc : TE) : TE := fun σ H Q => ta σ H fun x H1 => tb σ H1 fun y H2 => r x y H2 fun z H3 => ∃ k, z = .bl k ∧
  (if k = true then tc σ H3 fun w' H4 => r' y w' H4 Q else Q (.bl false) H3)
theorem pe_chain {op op' : CmpOp} {r r' : R2} (ho : OpR X (compareOp op) r) (ho' : OpR X (compareOp op') r') (ha : PE X a ta) (hb : PE X b tb) (hc : PE X c tc)
    (hm : lastMarks [op, op'] [b, c] = false := by with_unfolding_all rfl) : PE X (.Compare a [op, op'] [b, c] pos) (tChain r r' ta tb tc) := by
  intro pins s σ H Q I h
  refine Compare_chain (thn (ha pins s σ H _ I h) fun v s1 ⟨x, H1, I1, r1, q1⟩ => chain_link (thn (hb pins s1 σ H1 _ I1 q1) fun u s2 ⟨y, H2, I2, r2, q2⟩ =>
    thn (ho pins s2 σ H2 x y v u _ I2 r1 r2 q2) fun d s3 ⟨z, H3, I3, r3, k, e, q3⟩ => ?_)) hm
  subst e
  cases r3
  refine wpAny_truthy_bool ?_
  cases k with
  | false => exact ite_ff ⟨.bl false, H3, I3, rfl, q3⟩
  | true => exact ite_tt (chain_last (thn (hc pins s3 σ H3 _ I3 q3) fun w' s4 ⟨z', H4, I4, r4, q4⟩ => ho' pins s4 σ H4 y z' u w' Q I4 r2 r4 q4))
theorem pt_chain {op op' : CmpOp} {r r' : R2} (ho : OpR X (compareOp op) r) (ho' : OpR X (compareOp op') r') (ha : PE X a ta) (hb : PE X b tb) (hc : PE X c tc)
    (hm : lastMarks [op, op'] [b, c] = false := by with_unfolding_all rfl) : PT X (.Compare a [op, op'] [b, c] pos) (tTest (tChain r r' ta tb tc)) := by
  intro pins s σ H Q I h
  refine isTrue_chain (thn (ha pins s σ H _ I h) fun v s1 ⟨x, H1, I1, r1, q1⟩ => test_link (thn (hb pins s1 σ H1 _ I1 q1) fun u s2 ⟨y, H2, I2, r2, q2⟩ =>
    thn (ho pins s2 σ H2 x y v u _ I2 r1 r2 q2) fun d s3 ⟨z, H3, I3, r3, k, e, q3⟩ => ?_)) hm
  subst e
  cases r3
  refine wpAny_truthy_bool ?_
  cases k with
  | false =>
    obtain ⟨k', e', q'⟩ := q3
    cases e'
    exact ite_ff ⟨H3, I3, q'⟩
  | true =>
    refine ite_tt (test_last (thn (hc pins s3 σ H3 _ I3 q3) fun w' s4 ⟨z', H4, I4, r4, q4⟩ => thn (ho' pins s4 σ H4 y z' u w' _ I4 r2 r4 q4) fun d' s5 ⟨z2, H5, I5, r5, k2, e2, q5⟩ => ?_))
    subst e2
    cases r5
    exact wpAny_truthy_bool ⟨H5, I5, q5⟩

/-! ### truth -/
/-- a value's truth by the abstract heap -/
def TruV (K : PySem.W.Frag) (x : V) (H : Hp) (k : Bool) : Prop :=
  match x with
  | .non => k = false
  | .bl b => k = b
  | .int i => k = (i != 0)
  | .str y => y.length ≤ sizeLine ∧ k = ((y.length : Int) != 0)
  | .byt y => y.size ≤ sizeLine ∧ k = ((y.size : Int) != 0)
  | .ref p => (∃ xs, SqL K H p xs ∧ k = !xs.isEmpty) ∨ (∃ xs, SqT K H p xs ∧ k = !xs.isEmpty) ∨ ∃ kvs, H p = some (.dK kvs) ∧ k = !kvs.isEmpty
  | _ => False
theorem line63 : (sizeLine : Nat) < 2 ^ 63 := by rw [sizeLine_eq]; decide
/-! ### strs and bytes -/
theorem op_add_str : OpR X (binaryOp .Add) (fun x y H Q => ∃ i j, x = .str i ∧ y = .str j ∧ i.length + j.length ≤ sizeLine ∧ Q (.str (i ++ j)) H) := by
  intro pins s σ H x y v u Q I rx ry h
  obtain ⟨i, j, rfl, rfl, hz, q⟩ := h
  obtain ⟨t, rfl⟩ := rx
  obtain ⟨t', rfl⟩ := ry
  exact add_str (fun t' tk => ⟨.str (i ++ j), H, I.tok _, ⟨_, rfl⟩, q⟩) hz
def PlainIxT (b : Expr) : Prop := ∀ o i, subscripted b false o i = operate [o, i] (getItem o i)
/-! ### scalar builtins, by CallR -/
theorem vals1 {x : V} {us : List Value} (r : Vals [x] us) : ∃ u, us = [u] ∧ RelV x u := by
  cases r with
  | cons r1 r2 => cases r2; exact ⟨_, rfl, r1⟩
theorem vals2 {x y : V} {us : List Value} (r : Vals [x, y] us) : ∃ u w', us = [u, w'] ∧ RelV x u ∧ RelV y w' := by
  cases r with
  | cons r1 r2 =>
    cases r2 with
    | cons r3 r4 => cases r4; exact ⟨_, _, rfl, r1, r3⟩
theorem call_max2 (hc : X.calm = true) : CallR X (.builtin "max") (fun xs H Q => ∃ i j, xs = [.int i, .int j] ∧ Q (.int (if j > i then j else i)) H) := by
  intro pins s σ H xs us Q I r h
  obtain ⟨i, j, rfl, q⟩ := h
  obtain ⟨u, w', rfl, ⟨t, rfl⟩, ⟨t', rfl⟩⟩ := vals2 r
  refine max_two_ints (I.ok.hd hc) fun h' tk k => ⟨_, H, I.kept k, ?_, q⟩
  by_cases hj : j > i
  · rw [if_pos hj, if_pos hj]; exact ⟨_, rfl⟩
  · rw [if_neg hj, if_neg hj]; exact ⟨_, rfl⟩
/-- len of a str, a bytes, a list, a tuple -/
def LenV (K : PySem.W.Frag) (x : V) (H : Hp) (n : Nat) : Prop :=
  match x with
  | .str y => y.length ≤ sizeLine ∧ n = y.length
  | .byt y => y.size ≤ sizeLine ∧ n = y.size
  | .ref p => (∃ xs, SqL K H p xs ∧ n = xs.length) ∨ ∃ xs, SqT K H p xs ∧ n = xs.length
  | _ => False
end
end L2

namespace L2
open PySem PySem.Spec PyProof.Rows

/-! ### an instance, its attributes a map -/
structure ObjM (h : Heap) (x dx C : Addr) (mA : Str → Option Value) : Prop where
  obj : h.get? x = some (PySem.W.instObj C dx)
  ns : h.Ns1 dx mA
  ne : dx ≠ x

theorem lookIn_ns {h : Heap} {dx : Addr} {mA : Str → Option Value} (n : h.Ns1 dx mA) : ∃ od, h.get? dx = some od ∧ ∀ name, PySem.W.lookIn name od = some (mA name) := by
  obtain ⟨o, es, ep, ho, hd, hk, _, hm⟩ := n
  refine ⟨o, ho, fun name => ?_⟩
  have e := hm name
  unfold nsFind findBy at e
  rw [← Array.find?_toList] at e
  unfold PySem.W.lookIn
  rw [hd]
  dsimp only
  split
  · rename_i y q
    rw [q] at e
    exact congrArg some e
  · rename_i q
    rw [q] at e
    have a : es.toList.any (·.refKey) = false := by
      rw [List.any_eq_false]
      intro y hy
      obtain ⟨z, t, hkey⟩ := hk y (Array.mem_toList_iff.mp hy)
      simp [DictEntry.refKey, hkey]
    have a' : ¬ es.toList.any (·.refKey) = true := by rw [a]; exact Bool.false_ne_true
    rw [if_neg a']
    exact congrArg some e

theorem ObjM.look {h : Heap} {x dx C : Addr} {mA : Str → Option Value} (I : ObjM h x dx C mA) : ∃ od, PySem.W.InstAt h x (PySem.W.instObj C dx) C (some od) ∧ ∀ name, PySem.W.lookIn name od = some (mA name) :=
  let ⟨od, ho, hl⟩ := lookIn_ns I.ns
  ⟨od, ⟨I.obj, rfl, rfl, ho⟩, hl⟩

section
variable {prog : Program} {w : World} {A : Around} {E : Value → Shared → Prop} {s : Shared} {K : PySem.W.Frag} {x dx C f : Addr} {mA : Str → Option Value} {name : Str} {v : Value}

theorem get_map {expr : Bool} {Q : Value → Shared → Prop} (X : K.In s.heap) (I : ObjM s.heap x dx C mA) (hg : PySem.W.plainGet K C name = true) (hh : PySem.W.hasDictIn K C = true)
    (ha : PySem.W.findIn K (.ref C) name = some none) (hv : mA name = some v) (hv' : PySem.W.handedIn v = true) (h : Q v { s with toks := s.toks + 1 }) :
    wpAny (model prog w) A (getAttr (.ref x) name expr) Q E s := by
  obtain ⟨od, J, hl⟩ := I.look
  exact PySem.W.get_value X J (PySem.W.plainGet_of hg).1 (PySem.W.findObj_own hh ha rfl (by rw [hl, hv])) hv' h

theorem get_meth {pl : Sem Bool} {Q : Value × List Value → Shared → Prop} (X : K.In s.heap) (I : ObjM s.heap x dx C mA) (hg : PySem.W.plainGet K C name = true)
    (hf : PySem.W.findIn K (.ref C) name = some (some (.ref f))) (ht : PySem.W.isFn K (.ref f) = true) (hv : mA name = none) (h : Q (.ref f, [.ref x]) s) :
    wpAny (model prog w) A (getMethod (.ref x) name pl) Q E s := by
  obtain ⟨od, J, hl⟩ := I.look
  exact PySem.W.method_fn X J (PySem.W.plainGet_of hg).1 (PySem.W.plainGet_of hg).2 hf (beq_iff_eq.mp ht) (by show (PySem.W.lookIn name od).map (·.isSome) = some false; rw [hl, hv]; rfl) h

theorem set_map {ns : List Str} {Q : Unit → Shared → Prop} (X : K.In s.heap) (I : ObjM s.heap x dx C mA)
    (hs : PySem.W.findIn K (.ref C) "__setattr__" = some (some (.builtin "object.__setattr__"))) (hp : PySem.W.plainOver K C = true) (ht : PySem.W.takerIn K C name = some none) (hh : PySem.W.hasDictIn K C = true)
    (hw : PySem.Within mA ns) (hsz : ns.length ≤ sizeLine)
    (h : ∀ h', ObjM h' x dx C (fun y => if y = name then some v else mA y) → Heap.SameBut dx s.heap h' → Q () { s with heap := h', toks := s.toks + 2 }) :
    wpAny (model prog w) A (setAttr (.ref x) name v) Q E s := by
  obtain ⟨od, J, hl⟩ := I.look
  refine PySem.W.set_plain X J hs (PySem.W.osa_open (s := { s with toks := s.toks + 1 }) (r := none) X J hp ht fun b => ?_)
  obtain ⟨cd, hc, hd'⟩ := PySem.W.any_some hh
  have hx : s.heap.get? x = some ⟨.ref C, some dx, .plain, #[]⟩ := I.obj
  refine wpAny_bind (wpAny_pure (wpAny_bind (wpAny_bind (wpAny_loadPart hx (wpAny_bind (PySem.W.Looks.here (s := { s with toks := s.toks + 1 }) (PySem.W.looks_clsIn X hc) ?_))))))
  rw [hd']
  refine wpAny_pure (a := some dx) (wpAny_bind (wpAny_pure (wpAny_bind ?_)))
  refine wpAny_nsSet1 (s := { s with toks := s.toks + 1 }) I.ns fun h' hn2 hs2 => ?_
  obtain ⟨oD, esD, epD, hoD, hdD, hcD⟩ := hn2.count (PySem.Within.cons name v hw)
  refine wpAny_bind (wpAny_lookBehind hoD (by rw [hdD]; exact pastItsLine_dict (Nat.le_trans hcD (by rw [List.length_cons]; omega))) ?_)
  exact wpAny_pure (h _ ⟨(hs2.2 _ (Ne.symm I.ne)).trans I.obj, hn2, I.ne⟩ hs2)

/-- C(..): the dict at the heap's end, the instance behind it; then its __init__ -/
theorem make_map {R : Result → Shared → Prop} {vs : List Value} {kw : List (Str × Value)} (X : K.In s.heap) (hm : PySem.W.makesIn K C = true)
    (hi : PySem.W.findIn K (.ref C) "__init__" = some (some (.ref f))) (hf : PySem.W.typeIn K (.ref f) = some (.type "function"))
    (h : codeAny (model prog w) (A.under (.builtin "type.__call__" ⟨.ref C :: vs, kw⟩)) (.call (.ref f) ⟨.ref (s.heap.objs.size + 1) :: vs, kw⟩) (PySem.W.InitBack (s.heap.objs.size + 1) R)
      { s with heap := (s.heap.push PySem.W.emptyDict).push (PySem.W.instObj C s.heap.objs.size) }) :
    codeAny (model prog w) A (.call (.ref C) ⟨vs, kw⟩) R s := by
  obtain ⟨hh, g, d, t, os⟩ := s
  exact PySem.W.make_core (PySem.W.makes_of X hm) (PySem.W.looks_findIn X hi) (fun self => PySem.W.bind_fn X self hf) (.inl rfl) h
end

/-! ### the attributes as a list of pairs -/
def putF (f : Str) (v : V) : List (Str × V) → List (Str × V)
  | [] => [(f, v)]
  | (g, x) :: r => if g = f then (g, v) :: r else (g, x) :: putF f v r
theorem lookup_putF (f g : Str) (v : V) : ∀ fs : List (Str × V), (putF f v fs).lookup g = if g = f then some v else fs.lookup g
  | [] => by
    show List.lookup g [(f, v)] = _
    by_cases h : g = f
    · have hb : (g == f) = true := beq_iff_eq.mpr h
      simp only [List.lookup, hb, if_pos h]
    · have hb : (g == f) = false := beq_eq_false_iff_ne.mpr h
      simp only [List.lookup, hb, if_neg h]
  | (k, x) :: r => by
    have ih := lookup_putF f g v r
    rw [show putF f v ((k, x) :: r) = (if k = f then (k, v) :: r else (k, x) :: putF f v r) from rfl]
    by_cases hk : k = f
    · rw [if_pos hk]
      by_cases h : g = k
      · have hb : (g == k) = true := beq_iff_eq.mpr h
        simp only [List.lookup, hb, if_pos (h.trans hk)]
      · have hb : (g == k) = false := beq_eq_false_iff_ne.mpr h
        simp only [List.lookup, hb, if_neg (fun e : g = f => h (e.trans hk.symm))]
    · rw [if_neg hk]
      by_cases h : g = k
      · have hb : (g == k) = true := beq_iff_eq.mpr h
        simp only [List.lookup, hb, if_neg (fun e : g = f => hk (h.symm.trans e))]
      · have hb : (g == k) = false := beq_eq_false_iff_ne.mpr h
        simp only [List.lookup, hb]
        exact ih
theorem keys_putF (f : Str) (v : V) : ∀ fs : List (Str × V), f ∈ (putF f v fs).map (·.1) ∧ ∀ g, g ∈ fs.map (·.1) → g ∈ (putF f v fs).map (·.1)
  | [] => ⟨by simp [putF], fun g h => by simp at h⟩
  | (k, x) :: r => by
    obtain ⟨i1, i2⟩ := keys_putF f v r
    rw [show putF f v ((k, x) :: r) = (if k = f then (k, v) :: r else (k, x) :: putF f v r) from rfl]
    by_cases hk : k = f
    · rw [if_pos hk]
      subst hk
      exact ⟨by simp, fun g h => by simpa using h⟩
    · rw [if_neg hk]
      refine ⟨?_, fun g h => ?_⟩
      · rw [List.map_cons]
        exact List.mem_cons_of_mem _ i1
      · rw [List.map_cons] at h ⊢
        rcases List.mem_cons.mp h with e | e
        · exact List.mem_cons.mpr (.inl e)
        · exact List.mem_cons_of_mem _ (i2 g e)
theorem length_putF (f : Str) (v : V) : ∀ fs : List (Str × V), (putF f v fs).length ≤ fs.length + 1
  | [] => by simp [putF]
  | (k, x) :: r => by
    have ih := length_putF f v r
    rw [show putF f v ((k, x) :: r) = (if k = f then (k, v) :: r else (k, x) :: putF f v r) from rfl]
    by_cases hk : k = f
    · rw [if_pos hk, List.length_cons, List.length_cons]; omega
    · rw [if_neg hk, List.length_cons, List.length_cons]; omega

theorem RelO.some_of {v : V} {o : Option Value} (r : RelO (some v) o) : ∃ u, o = some u ∧ RelV v u := by
  cases o with
  | none => exact (show False from r).elim
  | some u => exact ⟨u, rfl, r⟩
theorem RelO.none_of {o : Option Value} (r : RelO none o) : o = none := by
  cases o with
  | none => rfl
  | some u => exact (show False from r).elim
theorem handed_of {v : V} {u : Value} (r : RelV v u) : PySem.W.handedIn u = true := by
  cases v with
  | non => cases (show u = Value.none from r); rfl
  | bl b => cases (show u = Value.bool b from r); rfl
  | int i => obtain ⟨t, e⟩ := (show ∃ t, u = Value.int i t from r); cases e; rfl
  | str x => obtain ⟨t, e⟩ := (show ∃ t, u = Value.str x t from r); cases e; rfl
  | byt b => obtain ⟨t, e⟩ := (show ∃ t, u = Value.bytes b t from r); cases e; rfl
  | flt b => obtain ⟨t, e⟩ := (show ∃ t, u = Value.float b t from r); cases e; rfl
  | ref a => cases (show u = Value.ref a from r); rfl
  | ty n => cases (show u = Value.type n from r); rfl

section
variable {P : Program} {w : World} {H H' : Hp} {h h' : Heap} {a C dx : Addr} {fs fs' : List (Str × V)}
theorem ins_get (hok : HOk P w H h) (e : H a = some (.ins C dx fs)) : ∃ mA, ObjM h a dx C mA ∧ (∀ f, RelO (fs.lookup f) (mA f)) ∧ PySem.Within mA (fs.map (·.1)) ∧ fs.length ≤ 1000 ∧ H dx = some (.own a) := by
  obtain ⟨d, z, ne, ob, mA, n, r, q⟩ := (show ObjOk P w H h a (.ins C dx fs) from hok a _ e)
  exact ⟨mA, ⟨ob, n, ne⟩, r, q, z, d⟩
end

/-! ### what of the text a class must have -/
structure Cls (K : PySem.W.Frag) (C : Addr) : Prop where
  pg : PySem.W.plainGet K C Str.empty = true
  hd : PySem.W.hasDictIn K C = true
  po : PySem.W.plainOver K C = true
  sa : PySem.W.findIn K (.ref C) "__setattr__" = some (some (.builtin "object.__setattr__"))
theorem Cls.get {K : PySem.W.Frag} {C : Addr} (c : Cls K C) (f : Str) : PySem.W.plainGet K C f = true := c.pg
/-- no class of it has the name -/
def NoAttr (K : PySem.W.Frag) (C : Addr) (f : Str) : Prop := PySem.W.findIn K (.ref C) f = some none
theorem NoAttr.taker {K : PySem.W.Frag} {C : Addr} {f : Str} (n : NoAttr K C f) : PySem.W.takerIn K C f = some none := by
  unfold PySem.W.takerIn
  rw [show PySem.W.findIn K (.ref C) f = some none from n]
  rfl
/-- a constant of the class -/
structure Con (K : PySem.W.Frag) (C : Addr) (f : Str) (v : V) (u : Value) : Prop where
  at_ : PySem.W.findIn K (.ref C) f = some (some u)
  rel : RelV v u
  get : PySem.W.specialIn K u "__get__" = some none
  cp : PySem.W.copiedNames.contains f = false
/-- a method: a plain def of the class or of one above it -/
structure Meth (K : PySem.W.Frag) (C : Addr) (m : Str) (f : Addr) : Prop where
  at_ : PySem.W.findIn K (.ref C) m = some (some (.ref f))
  fn : PySem.W.isFn K (.ref f) = true
  kp : PySem.W.keepIn K (.ref f) = true

section
variable {X : Cx} {pins : List (Addr × Obj)} {σ : St} {H : Hp} {s : Shared} {a C dx : Addr} {fs : List (Str × V)} {f : Str} {v : V} {A : Around} {E : Value → Shared → Prop}

theorem getattr_ok {b : Bool} {Q : Value → Shared → Prop} (I : Inv X pins σ H s) (e : H a = some (.ins C dx fs)) (c : Cls X.K C) (n : NoAttr X.K C f) (l : fs.lookup f = some v)
    (h : ∀ u s', Inv X pins σ H s' → RelV v u → Q u s') : wpAny (model X.prog X.w) A (getAttr (.ref a) f b) Q E s := by
  obtain ⟨mA, O, r, _, _, _⟩ := ins_get I.hok e
  obtain ⟨u, hu, ru⟩ := RelO.some_of (v := v) (o := mA f) (by rw [← l]; exact r f)
  exact get_map I.kIn O (c.get f) c.hd n hu (handed_of ru) (h u _ (I.tok _) ru)

theorem getmeth_ok {m : Str} {g : Addr} {pl : Sem Bool} {Q : Value × List Value → Shared → Prop} (I : Inv X pins σ H s) (e : H a = some (.ins C dx fs)) (c : Cls X.K C) (k : Meth X.K C m g) (l : fs.lookup m = none)
    (h : Q (.ref g, [.ref a]) s) : wpAny (model X.prog X.w) A (getMethod (.ref a) m pl) Q E s := by
  obtain ⟨mA, O, r, _, _, _⟩ := ins_get I.hok e
  have hn : mA m = none := RelO.none_of (by rw [← l]; exact r m)
  exact get_meth I.kIn O (c.get m) k.at_ k.fn hn h

theorem setattr_ok {y : V} {u : Value} {Q : Unit → Shared → Prop} (I : Inv X pins σ H s) (e : H a = some (.ins C dx fs)) (c : Cls X.K C) (n : NoAttr X.K C f) (hl : fs.length < 1000) (ry : RelV y u)
    (h : ∀ s', Inv X pins σ (upd H a (.ins C dx (putF f y fs))) s' → Q () s') : wpAny (model X.prog X.w) A (setAttr (.ref a) f u) Q E s := by
  obtain ⟨mA, O, r, wi, _, ho⟩ := ins_get I.hok e
  have hz : (fs.map (·.1)).length ≤ sizeLine := by rw [List.length_map, sizeLine_eq]; omega
  refine set_map I.kIn O c.sa c.po n.taker c.hd wi hz fun h' O' sb => h _ ?_
  have hd : ∃ o, h'.get? dx = some o := let ⟨o, _, _, e', _⟩ := O'.ns; ⟨o, e'⟩
  refine I.write (x := a) (e := dx) (by rw [e]; exact True.intro) (.inr ho) (fun b q hb z => (sb.2 b hb).trans z) hd ?_
  refine ⟨by rw [upd_ne O.ne]; exact ho, ?_, O.ne, O'.obj, _, O'.ns, fun g => ?_, fun g hg => ?_⟩
  · have := length_putF f y fs; omega
  · show RelO ((putF f y fs).lookup g) (if g = f then some u else mA g)
    rw [lookup_putF]
    by_cases q : g = f
    · rw [if_pos q, if_pos q]; exact ry
    · rw [if_neg q, if_neg q]; exact r g
  · by_cases q : g = f
    · rw [q]; exact (keys_putF f y fs).1
    · refine (keys_putF f y fs).2 g (wi g fun z => hg ?_)
      show (if g = f then some u else mA g) = none
      rw [if_neg q]; exact z

/-- a new instance, tracked, without attributes -/
theorem Inv.made (I : Inv X pins σ H s) : Inv X pins σ (upd (upd H s.heap.objs.size (.own (s.heap.objs.size + 1))) (s.heap.objs.size + 1) (.ins C s.heap.objs.size []))
    { s with heap := (s.heap.push PySem.W.emptyDict).push (PySem.W.instObj C s.heap.objs.size) } := by
  have e1 : (s.heap.push PySem.W.emptyDict).get? s.heap.objs.size = some PySem.W.emptyDict := Heap.get?_push_size s.heap rfl
  have e2 : ((s.heap.push PySem.W.emptyDict).push (PySem.W.instObj C s.heap.objs.size)).get? (s.heap.objs.size + 1) = some (PySem.W.instObj C s.heap.objs.size) := by
    have := Heap.get?_push_size (s.heap.push PySem.W.emptyDict) (o := PySem.W.instObj C s.heap.objs.size) rfl
    rwa [Heap.size_push] at this
  have e3 : (s.heap.push PySem.W.emptyDict).Ns s.heap.objs.size (fun _ => none) := ⟨PySem.W.emptyDict, #[], _, e1, rfl, (fun e he => absurd he (by simp)), fun _ => rfl⟩
  have I1 := I.laid (a := s.heap.objs.size) (o := .own (s.heap.objs.size + 1)) (h' := s.heap.push PySem.W.emptyDict) (t' := s.toks) (fun b u q => Heap.get?_push_of_some _ q) (Nat.le_refl _) ⟨_, e1⟩
  refine I1.laid (a := s.heap.objs.size + 1) (o := .ins C s.heap.objs.size []) (t' := s.toks) (fun b u q => Heap.get?_push_of_some _ q) (Nat.le_of_eq (Heap.size_push _ _)) ?_
  have ne : s.heap.objs.size ≠ s.heap.objs.size + 1 := Nat.ne_of_lt (Nat.lt_succ_self _)
  refine ⟨by rw [upd_ne ne, upd_same], Nat.zero_le _, ne, e2, fun _ => none, (Heap.Ns1.of_empty e3).at fun o q => Heap.get?_push_of_some _ q, fun _ => True.intro, fun y hy => absurd rfl hy⟩

/-- e.f where nothing but the object is asked: through attributeBase (super) and the last hold -/
theorem attr_of {prog : Program} {w : World} {env : Env} {e : Expr} {f : Str} {pos : Pos} {s : Shared} {Q : Value → Shared → Prop} (hb : attributeBase e f env (eval e env) = eval e env)
    (h : wpAny (model prog w) A (eval e env) (fun o s₁ => wpAny (model prog w) A (getAttr o f true) Q E s₁) E s) : wpAny (model prog w) A (eval (.Attribute e f pos) env) Q E s :=
  Attribute_any_ h (by rw [arm_eval_Attribute, hb])
end

/-! ### readings and rules -/
/-- e.f, an attribute of the instance -/
def tFld (K : PySem.W.Frag) (ta : TE) (f : Str) : TE := fun σ H Q => ta σ H fun x H1 => ∃ a C dx fs v, x = .ref a ∧ H1 a = some (.ins C dx fs) ∧ Cls K C ∧ NoAttr K C f ∧ fs.lookup f = some v ∧ Q v H1
/-- e.f, a constant of the class -/
def tCon (K : PySem.W.Frag) (ta : TE) (f : Str) : TE := fun σ H Q => ta σ H fun x H1 => ∃ a C dx fs v u, x = .ref a ∧ H1 a = some (.ins C dx fs) ∧ Cls K C ∧ Con K C f v u ∧ fs.lookup f = none ∧ Q v H1
/-- e.f = value -/
def sFld (K : PySem.W.Frag) (ta tv : TE) (f : Str) : TS := fun D σ H => tv σ H fun y H1 => ta σ H1 fun x H2 => ∃ a C dx fs, x = .ref a ∧ H2 a = some (.ins C dx fs) ∧ Cls K C ∧ NoAttr K C f ∧ fs.length < 1000 ∧
  D.nx σ (upd H2 a (.ins C dx (putF f y fs)))
/-- an augmented operator on two values -/
def InOp (X : Cx) (op : Operator) (rd : V → V → Hp → VK → Prop) : Prop :=
  ∀ (pins : List (Addr × Obj)) (s : Shared) (σ : St) (H : Hp) (x y : V) (u v : Value) (Q : VK), Inv X pins σ H s → RelV x u → RelV y v → rd x y H Q → wpAny (model X.prog X.w) X.A (inplaceOp op u v) (EP X pins σ Q) X.xe s
/-- e.f op= value -/
def sFldAug (K : PySem.W.Frag) (ta tv : TE) (rd : V → V → Hp → VK → Prop) (f : Str) : TS := fun D σ H => ta σ H fun x H1 => ∃ a C dx fs v, x = .ref a ∧ H1 a = some (.ins C dx fs) ∧ Cls K C ∧ NoAttr K C f ∧ fs.lookup f = some v ∧
  tv σ H1 fun y H2 => rd v y H2 fun z H3 => ∃ dx' fs', H3 a = some (.ins C dx' fs') ∧ fs'.length < 1000 ∧ D.nx σ (upd H3 a (.ins C dx' (putF f z fs')))

section
variable {X : Cx} {o e value : Expr} {f : Str} {pos pos' tpos : Pos} {ta tv : TE}
theorem pe_fld (he : PE X e ta) (hb : attributeBase e f X.env (eval e X.env) = eval e X.env) : PE X (.Attribute e f pos) (tFld X.K ta f) := by
  intro pins s σ H Q I h
  refine attr_of hb (thn (he pins s σ H _ I h) fun u s1 ⟨x, H1, I1, rx, a, C, dx, fs, v, ex, ea, c, n, l, q⟩ => ?_)
  subst ex
  obtain rfl : u = Value.ref a := rx
  exact getattr_ok I1 ea c n l fun u' s2 I2 ru => ⟨v, H1, I2, ru, q⟩
theorem ps_fld (ha : PE X o ta) (hv : PE X value tv) (hs : swapsWith value (some (.Attribute o f pos')) pos.line X.env = pure false) : PS X (.Assign [.Attribute o f pos'] value pos) (sFld X.K ta tv f) := by
  intro pins s σ H D I h
  refine plainObj_wpAny_Assign_Attribute (thn (hv pins s σ H _ I h) fun u s1 ⟨y, H1, I1, ry, q⟩ => thn (ha pins s1 σ H1 _ I1 q) fun ov s2 ⟨x, H2, I2, rx, a, C, dx, fs, ex, ea, c, n, l, q2⟩ => ?_) hs
  subst ex
  obtain rfl : ov = Value.ref a := rx
  exact setattr_ok I2 ea c n l ry fun s3 I3 => ⟨σ, _, I3, q2⟩
def rAdd : V → V → Hp → VK → Prop := fun x y H Q => ∃ i j, x = .int i ∧ y = .int j ∧ Q (.int (i + j)) H
def rSub : V → V → Hp → VK → Prop := fun x y H Q => ∃ i j, x = .int i ∧ y = .int j ∧ Q (.int (i - j)) H
end

/-! ### isinstance -/
section
variable {X : Cx} {pins : List (Addr × Obj)} {σ : St} {H : Hp} {s : Shared} {A : Around} {E : Value → Shared → Prop} {Q : Value → Shared → Prop} {c : Value} {b : Bool}
/-- the type of a value, as the fragment's deciders take it; for an instance its class -/
inductive TyOf (K : PySem.W.Frag) (H : Hp) : V → Value → Prop where
  | non : TyOf K H .non (.type "NoneType")
  | bl (x : Bool) : TyOf K H (.bl x) (.type "bool")
  | int (i : Int) : TyOf K H (.int i) (.type "int")
  | str (x : Str) : TyOf K H (.str x) (.type "str")
  | flt (x : UInt64) : TyOf K H (.flt x) (.type "float")
  | lst {a : Addr} {xs : List V} (e : H a = some (.lst xs)) : TyOf K H (.ref a) (.type "list")
  | frz {a : Addr} {o : Obj} {xs : List V} (e : H a = some (.frz o (.lst xs))) : TyOf K H (.ref a) (.type "list")
  | tup {a : Addr} {xs : List V} (e : H a = some (.tup xs)) : TyOf K H (.ref a) (.type "tuple")
  | dK {a : Addr} {kvs : List (Key × V)} (e : H a = some (.dK kvs)) : TyOf K H (.ref a) (.type "dict")
  | dT {a : Addr} {kvs : List (List Key × V)} (e : H a = some (.dT kvs)) : TyOf K H (.ref a) (.type "dict")
  | ins {a C dx : Addr} {fs : List (Str × V)} (e : H a = some (.ins C dx fs)) (cl : Cls K C) (ha : PySem.W.findIn K (.ref C) "__class__" = some (some (.builtin "object.__class__")))
      (hn : PySem.W.specialIn K (.builtin "object.__class__") "__get__" = some (some (.builtin "getset_descriptor.__get__"))) (htk : PySem.W.takesIn K (.builtin "object.__class__") = some true)
      (hm : PySem.W.mroIn K C (.type "object") = some true) : TyOf K H (.ref a) (.ref C)
/-- isinstance(x, c) for one class c, a built-in or an own one: kitOne's answer -/
theorem isinst_ok {x : V} {u t : Value} (I : Inv X pins σ H s) (rx : RelV x u) (ty : TyOf X.K H x t) (e : PySem.W.kitOne X.K t c = some b) (h : ∀ tk, Q (.bool b) { s with toks := tk }) :
    wpAny (model X.prog X.w) A (call (.builtin "isinstance") [u, c]) Q E s := by
  cases ty with
  | non => cases (show u = Value.none from rx); exact PySem.W.kia_one PySem.W.kitx_none I.kIn True.intro e (fun z => nomatch z) h
  | bl y => cases (show u = Value.bool y from rx); exact PySem.W.kia_one PySem.W.kitx_bool I.kIn True.intro e (fun z => nomatch z) h
  | int i => obtain ⟨t, q⟩ := (show ∃ t, u = Value.int i t from rx); cases q; exact PySem.W.kia_one PySem.W.kitx_int I.kIn True.intro e (fun z => nomatch z) h
  | str y => obtain ⟨t, q⟩ := (show ∃ t, u = Value.str y t from rx); cases q; exact PySem.W.kia_one PySem.W.kitx_str I.kIn True.intro e (fun z => nomatch z) h
  | flt y => obtain ⟨t, q⟩ := (show ∃ t, u = Value.float y t from rx); cases q; exact PySem.W.kia_one PySem.W.kitx_float I.kIn True.intro e (fun z => nomatch z) h
  | @lst a xs ea =>
    cases (show u = Value.ref a from rx)
    obtain ⟨_, _, n, _, h1⟩ := (show ObjOk X.prog X.w H s.heap a (.lst xs) from I.hok a _ ea)
    exact PySem.W.kia_one PySem.W.kitx_list I.kIn ⟨_, h1, rfl⟩ e (fun z => nomatch z) h
  | @frz a ob xs ea =>
    cases (show u = Value.ref a from rx)
    obtain ⟨_, _, _, n, _, h1⟩ := (show ObjOk X.prog X.w H s.heap a (.frz ob (.lst xs)) from I.hok a _ ea)
    exact PySem.W.kia_one PySem.W.kitx_list I.kIn ⟨_, h1, rfl⟩ e (fun z => nomatch z) h
  | @tup a xs ea =>
    cases (show u = Value.ref a from rx)
    obtain ⟨_, _, _, p⟩ := (show ObjOk X.prog X.w H s.heap a (.tup xs) from I.hok a _ ea)
    obtain ⟨o, h1, h2, _⟩ := p
    exact PySem.W.kia_one PySem.W.kitx_tuple I.kIn ⟨o, h1, h2⟩ e (fun z => nomatch z) h
  | @dK a kvs ea =>
    cases (show u = Value.ref a from rx)
    obtain ⟨_, _, vs, _, p⟩ := (show ObjOk X.prog X.w H s.heap a (.dK kvs) from I.hok a _ ea)
    obtain ⟨o, es, ep, h1, h2, _⟩ := p
    exact PySem.W.kia_one PySem.W.kitx_dict I.kIn ⟨o, h1, h2.1⟩ e (fun z => nomatch z) h
  | @dT a kvs ea =>
    cases (show u = Value.ref a from rx)
    obtain ⟨_, _, xs, _, o, es, ep, h1, h2, _⟩ := (show ObjOk X.prog X.w H s.heap a (.dT kvs) from I.hok a _ ea)
    exact PySem.W.kia_one PySem.W.kitx_dict I.kIn ⟨o, h1, h2.1⟩ e (fun z => nomatch z) h
  | @ins a C dx fs ea cl ha hn htk hm =>
    cases (show u = Value.ref a from rx)
    obtain ⟨mA, O, _⟩ := ins_get I.hok ea
    obtain ⟨od, J, _⟩ := O.look
    exact PySem.W.kia_one (PySem.W.kitx_own (cl.get _) cl.hd ha hn htk hm) I.kIn J e (fun z => nomatch z) h
end
end L2

namespace L2
open PySem PySem.Spec PyProof.Rows

/-! ### room -/
structure Room (k : Nat) (A : Around) : Prop where
  hd : A.handled = none
  dp : A.depth + 3 * k + 5 < recursionLimit
  un : A.units + 16 * k + 200 < cLine
theorem Room.mono {j k : Nat} {A : Around} (r : Room k A) (h : j ≤ k) : Room j A := ⟨r.hd, by have := r.dp; omega, by have := r.un; omega⟩
theorem Room.deeper {k : Nat} {A : Around} (r : Room (k + 1) A) (env : Env) : Room k (A.deeper env) :=
  ⟨r.hd, by have := r.dp; show A.depth + 1 + 3 * k + 5 < _; omega, by have := r.un; show A.units + 3 + 16 * k + 200 < _; omega⟩
theorem Room.in1 {k : Nat} {A : Around} (r : Room (k + 1) A) : Room k A.in1 :=
  ⟨r.hd, by have := r.dp; show A.depth + 3 * k + 5 < _; omega, by have := r.un; show A.units + 1 + 16 * k + 200 < _; omega⟩
theorem make_depth {A : Around} {C : Addr} {us : List Value} {kw : List (Str × Value)} : (A.under (.builtin "type.__call__" ⟨.ref C :: us, kw⟩)).depth = A.depth + 1 := by
  first | rfl | simp [Around.under, Code.weight, Code.isCreation, Code.isGuard, Code.isCaller, Code.frames, Code.isFrame, guardIds]
theorem make_units {A : Around} {C : Addr} {us : List Value} {kw : List (Str × Value)} : (A.under (.builtin "type.__call__" ⟨.ref C :: us, kw⟩)).units = A.units + 1 := by
  first | rfl | simp [Around.under, Code.cUnits, Code.frames, Code.isFrame]
theorem Room.make {k : Nat} {A : Around} (r : Room (k + 1) A) (C : Addr) (us : List Value) (kw : List (Str × Value)) : Room k (A.under (.builtin "type.__call__" ⟨.ref C :: us, kw⟩)) :=
  ⟨r.hd, by have := r.dp; rw [make_depth]; omega, by have := r.un; rw [make_units]; omega⟩
theorem Room.depth {k : Nat} {A : Around} (r : Room k A) : A.depth < recursionLimit := by have := r.dp; omega
theorem Room.units {k : Nat} {A : Around} (r : Room k A) : A.units + 64 < cLine := by have := r.un; omega
/-! ### argument lists and displays -/
def tNil : TA := fun _ H Q => Q [] H
def tCons (ta : TE) (tr : TA) : TA := fun σ H Q => ta σ H fun x H1 => tr σ H1 fun xs H2 => Q (x :: xs) H2
section
variable {X : Cx} {e : Expr} {es : List Expr} {te : TE} {t : TA} {pos : Pos}
theorem pa_nil : PA X [] tNil := fun _ _ _ _ H Q I h => Calls.spliced_nil ⟨[], H, I, .nil, h⟩
theorem pa_cons (ha : PE X e te) (hr : PA X es t) (hs : starEach (e :: es) X.env = (false, eval e X.env) :: starEach es X.env := by rfl) : PA X (e :: es) (tCons te t) := by
  intro pos pins s σ H Q I h
  rw [hs]
  show wpAny _ _ (spliced ((false, eval e X.env) :: backTo pos (starEach es X.env))) _ _ s
  refine Calls.spliced_cons (thn (ha pins s σ H _ I h) fun u s1 ⟨x, H1, I1, r1, q1⟩ => ?_)
  exact thn (hr pos pins s1 σ H1 _ I1 q1) fun us s2 ⟨xs, H2, I2, r2, q2⟩ => ⟨x :: xs, H2, I2, .cons r1 r2, q2⟩

/-- a tuple, a list of written items -/
def tTup (t : TA) : TE := fun σ H Q => t σ H fun xs H1 => xs.length ≤ sizeLine ∧ ∀ p, H1 p = none → Q (.ref p) (upd H1 p (.tup xs))
def tLst (t : TA) : TE := fun σ H Q => t σ H fun xs H1 => xs.length ≤ sizeLine ∧ ∀ p, H1 p = none → Q (.ref p) (upd H1 p (.lst xs))
theorem pe_tup {x1} (h : PA X es t) : PE X (.Tuple es x1 pos) (tTup t) := by
  intro pins s σ H Q I hq
  refine wpAny_Tuple_spliced (thn (h pos pins s σ H _ I hq) fun us s1 ⟨xs, H1, I1, r, z, q⟩ => ⟨by rw [← r.length]; exact z, ?_⟩)
  have hf : H1 s1.heap.objs.size = none := I1.hok.fresh (Nat.le_refl _)
  refine ⟨.ref s1.heap.objs.size, upd H1 s1.heap.objs.size (.tup xs), I1.laid (t' := s1.toks) (fun b u e => Heap.get?_push_of_some _ e) (Nat.le_refl _) ?_, rfl, q _ hf⟩
  exact ⟨z, us, r, ⟨_, Heap.get?_push_size _ rfl, rfl, _, rfl⟩⟩
theorem pe_lst (h : PA X es t) : PE X (.List es pos) (tLst t) := by
  intro pins s σ H Q I hq
  refine wpAny_List_spliced (thn (h pos pins s σ H _ I hq) fun us s1 ⟨xs, H1, I1, r, z, q⟩ => ⟨by rw [← r.length]; exact z, ?_⟩)
  have hf : H1 s1.heap.objs.size = none := I1.hok.fresh (Nat.le_refl _)
  refine ⟨.ref s1.heap.objs.size, upd H1 s1.heap.objs.size (.lst xs), I1.laid (t' := s1.toks) (fun b u e => Heap.get?_push_of_some _ e) (Nat.le_refl _) ?_, rfl, q _ hf⟩
  exact ⟨z, us, 0, r, Heap.get?_push_size _ rfl⟩
end

/-! ### what a def promises -/
/-- a def's promise: the bound arguments in the parameters' order, the heap, the wanted end, the wanted exception -/
abbrev Sp := List V → Hp → VK → XK → Prop
/-- how an exception lies behind a call (file 08 gives it): the callers' frames, abstract heap and state ahead of the call, the wish, the exception, the state -/
abbrev CXT := List Env → Hp → Shared → XK → Value → Shared → Prop

/-- the state at a call -/
structure Env0 (P : Program) (w : World) (K : PySem.W.Frag) (mg : Str → Option Value) (base : Heap) (A : Around) (outer : List Env) (s : Shared) (H : Hp) : Prop where
  frames : A.frames = some outer
  mod : Mod K mg base
  bs : ∀ b o, base.get? b = some o → s.heap.get? b = some o ∧ H b = none
  bsz : base.objs.size ≤ s.heap.objs.size
  funs : s.heap.FunFrames base outer
  frf : ∀ b ∈ frs outer, H b = none
  hok : HOk P w H s.heap
  bare : AllBare s.gens
/-- a call's end -/
def CE (outer : List Env) (P : Program) (w : World) (H : Hp) (s : Shared) (Q : VK) (u : Value) (s' : Shared) : Prop :=
  ∃ v H', s'.os = s.os ∧ AllBare s'.gens ∧ Un (frs outer) [] H H' s.heap s'.heap ∧ HOk P w H' s'.heap ∧ RelV v u ∧ Q v H'
def CR (CX : CXT) (outer : List Env) (P : Program) (w : World) (H : Hp) (s : Shared) (Q : VK) (E : XK) (r : Result) (s' : Shared) : Prop :=
  match r with
  | .ok (.ret u) => CE outer P w H s Q u s'
  | .ok _ => False
  | .error e => CX outer H s E e s'
structure FnOk (P : Program) (w : World) (K : PySem.W.Frag) (mg : Str → Option Value) (base : Heap) (CX : CXT) (k : Nat) (f : Addr) (fd : FuncData) (ps : List Str) (sp : Sp) : Prop where
  len : ∀ vs H Q E, sp vs H Q E → vs.length = ps.length
  run : ∀ (A : Around) (outer : List Env) (s : Shared) (H : Hp) (args : Args) (us : List Value) (vs : List V) (Q : VK) (E : XK), Room k A → Env0 P w K mg base A outer s H → BindsTo s fd args (ps.zip us) → Vals vs us → sp vs H Q E →
    codeAny (model P w) A (.call (.ref f) args) (CR CX outer P w H s Q E) s
theorem Env0.make {P : Program} {w : World} {K : PySem.W.Frag} {mg : Str → Option Value} {base : Heap} {A : Around} {outer : List Env} {s : Shared} {H : Hp} (e : Env0 P w K mg base A outer s H) (C : Addr) (us : List Value) (kw : List (Str × Value)) :
    Env0 P w K mg base (A.under (.builtin "type.__call__" ⟨.ref C :: us, kw⟩)) outer s H := ⟨by first | exact e.frames | (simpa [Around.under, Code.envs, Code.isFrame, pushEnvs] using e.frames), e.mod, e.bs, e.bsz, e.funs, e.frf, e.hok, e.bare⟩
theorem Env0.in1 {P : Program} {w : World} {K : PySem.W.Frag} {mg : Str → Option Value} {base : Heap} {A : Around} {outer : List Env} {s : Shared} {H : Hp} (e : Env0 P w K mg base A outer s H) :
    Env0 P w K mg base A.in1 outer s H := ⟨e.frames, e.mod, e.bs, e.bsz, e.funs, e.frf, e.hok, e.bare⟩

section
variable {X : Cx} {pins : List (Addr × Obj)} {σ : St} {H : Hp} {s s' : Shared}
/-- from a body: what a callee wants -/
theorem Inv.env0 (I : Inv X pins σ H s) : Env0 X.prog X.w X.K X.mg X.base X.A X.stack s H :=
  ⟨I.ok.frames, I.ok.mod, I.bs, Nat.le_trans I.ok.bsz I.sz, I.stack, I.stkFree, I.hok, I.bare⟩
/-- behind a call -/
theorem Inv.after {Q : VK} {u : Value} (I : Inv X pins σ H s) (h : CE X.stack X.prog X.w H s Q u s') : EP X pins σ Q u s' := by
  obtain ⟨v, H', os, bare, un, hok, r, q⟩ := h
  obtain ⟨hh, g, d, t, os'⟩ := s'
  obtain rfl : os' = s.os := os
  exact ⟨v, H', I.call (h' := hh) (g' := g) (d' := d) (t' := t) (ch := []) un hok bare (fun b z => absurd z (by simp)), r, q⟩
end

/-! ### calls -/
/-- f(..): the written arguments, then the defaults dvs; E: what is wanted of an exception -/
def tCall (sp : Sp) (dvs : List V) (E : XK) (t : TA) : TE := fun σ H Q => t σ H fun vs H1 => sp (vs ++ dvs) H1 Q E
/-- o.m(..) of an instance of the class at C -/
def tMeth (C : Addr) (m : Str) (sp : Sp) (dvs : List V) (E : XK) (ta : TE) (t : TA) : TE := fun σ H Q => ta σ H fun x H1 => ∃ a dx fs, x = .ref a ∧ H1 a = some (.ins C dx fs) ∧ fs.lookup m = none ∧
  t σ H1 fun vs H2 => sp (x :: (vs ++ dvs)) H2 Q E
/-- C(..): a new instance and its dict, then __init__ -/
def tMake (C : Addr) (sp : Sp) (dvs : List V) (E : XK) (t : TA) : TE := fun σ H Q => t σ H fun vs H1 => ∀ x dx, H1 x = none → H1 dx = none → dx ≠ x →
  sp (.ref x :: (vs ++ dvs)) (upd (upd H1 dx (.own x)) x (.ins C dx [])) (fun v H2 => v = .non ∧ Q (.ref x) H2) E

/-- how the parameters are bound: us the positional arguments, kw the keywords' values by name, ds the defaults that fill up -/
def Binds (K : PySem.W.Frag) (fd : FuncData) (ps : List Str) (ds : List Value) : Prop :=
  ∀ (s : Shared) (us : List Value), K.In s.heap → (us ++ ds).length = ps.length → BindsTo s fd ⟨us, []⟩ (ps.zip (us ++ ds))
/-- every parameter is given -/
theorem Binds.all {K : PySem.W.Frag} {fd : FuncData} {ps : List Str} (h : ∀ us : List Value, us.length = ps.length → bindArgs fd ⟨us, []⟩ = pure (ps.zip us)) : Binds K fd ps [] := fun s us _ hl => by
  rw [List.append_nil] at hl ⊢
  exact .of_eq (h us hl)

/-- an exception of a callee reaches what this body wants of exceptions -/
def Passes (CX : CXT) (X : Cx) (E : XK) : Prop := ∀ (pins : List (Addr × Obj)) (σ : St) (H : Hp) (s : Shared) (e : Value) (s' : Shared), Inv X pins σ H s → CX X.stack H s E e s' → X.xe e s'

section
variable {X : Cx} {CX : CXT} {k : Nat} {f C : Addr} {fd : FuncData} {ps : List Str} {sp : Sp} {dvs : List V} {ds : List Value} {E : XK} {x m : Str} {p pos apos : Pos} {e o : Expr} {es : List Expr} {ta : TE} {t : TA}

/-- the callee runs -/
theorem run_fn {pins : List (Addr × Obj)} {σ : St} {H : Hp} {s : Shared} {Q : VK} {us : List Value} {vs : List V} (F : FnOk X.prog X.w X.K X.mg X.base CX k f fd ps sp) (hr : Room k X.A) (hb : Binds X.K fd ps ds) (hd : Vals dvs ds) (hx : Passes CX X E)
    (I : Inv X pins σ H s) (r : Vals vs us) (h : sp (vs ++ dvs) H Q E) : wpAny (model X.prog X.w) X.A (call (.ref f) us) (EP X pins σ Q) X.xe s := by
  have r2 : Vals (vs ++ dvs) (us ++ ds) := r.append hd
  have hl : (us ++ ds).length = ps.length := by rw [← r2.length]; exact F.len _ _ _ _ h
  refine wpAny_call (codeAny_mono (F.run X.A X.stack s H ⟨us, []⟩ (us ++ ds) (vs ++ dvs) Q E hr I.env0 (hb s us I.kIn hl) r2 h) fun r s' hq => ?_)
  cases r with
  | error e => exact hx pins σ H s e s' I hq
  | ok fl =>
    cases fl with
    | ret u => exact I.after hq
    | next => exact False.elim hq
    | brk => exact False.elim hq
    | cont => exact False.elim hq

theorem pe_call (F : FnOk X.prog X.w X.K X.mg X.base CX k f fd ps sp) (hr : Room k X.A) (hg : Gl X x) (hm : X.mg x = some (.ref f)) (hk : PySem.W.keepIn X.K (.ref f) = true) (hb : Binds X.K fd ps ds) (hd : Vals dvs ds) (hx : Passes CX X E)
    (ha : PA X (e :: es) t) (hdb : (x == ("__debug__" : Str)) = false := by decide) (he : starEach (e :: es) X.env = (false, eval e X.env) :: starEach es X.env := by rfl) (hpl : (backTo pos (starEach es X.env)).any (·.1) = false := by rfl) :
    PE X (.Call (.Name x p) (e :: es) [] pos) (tCall sp dvs E t) := by
  intro pins s σ H Q I h
  refine wpAny_Call_Name_kw (ld_glob I hg hm ?_ hdb)
  refine PySem.W.callWith_K (h₀ := X.base) I.ok.mod.kin hk (thn (ha pos pins s σ H _ I h) fun us s1 ⟨vs, H1, I1, r, q⟩ => ⟨I1.kIn, ?_⟩) he hpl
  exact run_fn F hr hb hd hx I1 r q
/-- what a class must have to be made -/
structure Mk (K : PySem.W.Frag) (C f : Addr) : Prop where
  makes : PySem.W.makesIn K C = true
  init : PySem.W.findIn K (.ref C) "__init__" = some (some (.ref f))
  fn : PySem.W.isFn K (.ref f) = true
  kp : PySem.W.keepIn K (.ref C) = true

end

/-! ### keywords -/
/-- the values of the keywords, from the left -/
def PK (X : Cx) (kws : List Keyword) (t : TA) : Prop :=
  ∀ (pos : Pos) (pins : List (Addr × Obj)) (s : Shared) (σ : St) (H : Hp) (Q : List V → Hp → Prop), Inv X pins σ H s → t σ H Q → wpAny (model X.prog X.w) X.A (evalAll ((backToKw pos (keywordEach kws X.env)).map (·.2))) (AP X pins σ Q) X.xe s
section
variable {X : Cx} {CX : CXT} {k : Nat} {f C : Addr} {fd : FuncData} {ps ks : List Str} {sp : Sp} {E : XK} {x m : Str} {p pos apos kpos : Pos} {e o : Expr} {es : List Expr} {kws : List Keyword} {te ta : TE} {t tk : TA} {nm : Option Str}
theorem pk_nil : PK X [] tNil := fun _ _ _ _ H Q I h => wpAny_evalAll_nil ⟨[], H, I, .nil, h⟩
theorem pk_cons (ha : PE X e te) (hr : PK X kws t) : PK X (⟨nm, e, kpos⟩ :: kws) (tCons te t) := by
  intro pos pins s σ H Q I h
  show wpAny _ _ (evalAll ((do let v ← eval e X.env; standAt pos; pure v) :: (backToKw pos (keywordEach kws X.env)).map (·.2))) _ _ s
  refine wpAny_evalAll_cons (wpAny_bind (thn (ha pins s σ H _ I h) fun u s1 ⟨x, H1, I1, r1, q1⟩ => wpAny_bind (wpAny_standAt (wpAny_pure ?_))))
  exact thn (hr pos pins s1 σ H1 _ I1 q1) fun us s2 ⟨xs, H2, I2, r2, q2⟩ => ⟨x :: xs, H2, I2, .cons r1 r2, q2⟩

/-- how a call with keywords binds: g puts the positional values us and the keywords' values ws (names ks) in the parameters' order, defaults among them -/
structure KBinds (K : PySem.W.Frag) (fd : FuncData) (ps ks : List Str) (g : List Value → List Value → List Value) (gV : List V → List V → List V) : Prop where
  to : ∀ (s : Shared) (us ws : List Value), K.In s.heap → (g us ws).length = ps.length → BindsTo s fd ⟨us, ks.zip ws⟩ (ps.zip (g us ws))
  rel : ∀ {vs : List V} {us : List Value} {zs : List V} {ws : List Value}, Vals vs us → Vals zs ws → Vals (gV vs zs) (g us ws)
def tCallK (sp : Sp) (gV : List V → List V → List V) (E : XK) (t tk : TA) : TE := fun σ H Q => t σ H fun vs H1 => tk σ H1 fun zs H2 => sp (gV vs zs) H2 Q E
variable {g : List Value → List Value → List Value} {gV : List V → List V → List V}
theorem run_fnk {pins : List (Addr × Obj)} {σ : St} {H : Hp} {s : Shared} {Q : VK} {us ws : List Value} {vs zs : List V} (F : FnOk X.prog X.w X.K X.mg X.base CX k f fd ps sp) (hr : Room k X.A) (hb : KBinds X.K fd ps ks g gV) (hx : Passes CX X E)
    (I : Inv X pins σ H s) (r : Vals vs us) (rz : Vals zs ws) (h : sp (gV vs zs) H Q E) : wpAny (model X.prog X.w) X.A (call (.ref f) us (ks.zip ws)) (EP X pins σ Q) X.xe s := by
  have r2 := hb.rel r rz
  have hl : (g us ws).length = ps.length := by rw [← r2.length]; exact F.len _ _ _ _ h
  refine wpAny_call (codeAny_mono (F.run X.A X.stack s H ⟨us, ks.zip ws⟩ (g us ws) (gV vs zs) Q E hr I.env0 (hb.to s us ws I.kIn hl) r2 h) fun r s' hq => ?_)
  cases r with
  | error e => exact hx pins σ H s e s' I hq
  | ok fl =>
    cases fl with
    | ret u => exact I.after hq
    | next => exact False.elim hq
    | brk => exact False.elim hq
    | cont => exact False.elim hq
end

/-! ### a def's body keeps its promise -/
/-- names: the parameters first -/
structure FnScope (N P : List Str) (sc : Scope) : Prop where
  kind : sc.kind = .function
  co : sc.isCoroutine = false
  gen : sc.isGenerator = false
  nd : N.Nodup
  pre : N.take P.length = P
  par : ∀ x ∈ P, sc.names.lookup x = some .local ∨ sc.names.lookup x = some .cell
  nofree : ∀ y ∈ sc.names, y.2 ≠ .free

theorem bindL_out {kindOf : Str → Option NameKind} {x : Str} : ∀ {binds : List (Str × Value)} {m : Str → Option Value}, (∀ v, (x, v) ∉ binds) → bindL kindOf binds m x = m x
  | [], _, _ => rfl
  | (n, v) :: r, m, h => by
    unfold bindL
    rw [bindL_out fun w hw => h w (List.mem_cons_of_mem _ hw)]
    split
    · have : x ≠ n := by rintro rfl; exact h v List.mem_cons_self
      simp [this]
    · rfl
theorem bindC_out {kindOf : Str → Option NameKind} {x : Str} : ∀ {binds : List (Str × Value)} {m : Str → Option Value}, (∀ v, (x, v) ∉ binds) → bindC kindOf binds m x = m x
  | [], _, _ => rfl
  | (n, v) :: r, m, h => by
    unfold bindC
    rw [bindC_out fun w hw => h w (List.mem_cons_of_mem _ hw)]
    split
    · rfl
    · have : x ≠ n := by rintro rfl; exact h v List.mem_cons_self
      simp [this]
theorem bindL_get {kindOf : Str → Option NameKind} {x : Str} {v : Value} : ∀ {P : List Str} {vs : List Value} {i : Nat} {m : Str → Option Value}, P.Nodup → P[i]? = some x → vs[i]? = some v → kindOf x = some .local →
    bindL kindOf (P.zip vs) m x = some v
  | [], _, _, _, _, h, _, _ => by simp at h
  | _ :: _, [], _, _, _, _, h, _ => by simp at h
  | p :: P, w :: vs, 0, m, nd, h1, h2, hk => by
    simp at h1 h2; subst h1; subst h2
    show bindL kindOf ((p, w) :: P.zip vs) m p = _
    unfold bindL
    rw [bindL_out fun v hv => (List.nodup_cons.mp nd).1 (List.of_mem_zip hv).1, if_pos hk]
    simp
  | p :: P, w :: vs, i + 1, m, nd, h1, h2, hk => by
    show bindL kindOf ((p, w) :: P.zip vs) m x = _
    unfold bindL
    exact bindL_get (i := i) (List.nodup_cons.mp nd).2 (by simpa using h1) (by simpa using h2) hk
theorem bindC_get {kindOf : Str → Option NameKind} {x : Str} {v : Value} : ∀ {P : List Str} {vs : List Value} {i : Nat} {m : Str → Option Value}, P.Nodup → P[i]? = some x → vs[i]? = some v → kindOf x ≠ some .local →
    bindC kindOf (P.zip vs) m x = some v
  | [], _, _, _, _, h, _, _ => by simp at h
  | _ :: _, [], _, _, _, _, h, _ => by simp at h
  | p :: P, w :: vs, 0, m, nd, h1, h2, hk => by
    simp at h1 h2; subst h1; subst h2
    show bindC kindOf ((p, w) :: P.zip vs) m p = _
    unfold bindC
    rw [bindC_out fun v hv => (List.nodup_cons.mp nd).1 (List.of_mem_zip hv).1, if_neg hk]
    simp
  | p :: P, w :: vs, i + 1, m, nd, h1, h2, hk => by
    show bindC kindOf ((p, w) :: P.zip vs) m x = _
    unfold bindC
    exact bindC_get (i := i) (List.nodup_cons.mp nd).2 (by simpa using h1) (by simpa using h2) hk

/-- the names' values at the entry -/
def start (N : List Str) (vs : List V) : St := vs.map some ++ List.replicate (N.length - vs.length) none

/-- the context of a def's body, at its entry; an exception leaves the frame, then lies as CX says -/
def cxOf (CX : CXT) (P : Program) (w : World) (K : PySem.W.Frag) (mg : Str → Option Value) (base : Heap) (N : List Str) (qual : Str) (scope : Scope) (f : Addr) (cd : Value) (A : Around) (outer : List Env) (s : Shared) (H : Hp) (E : XK) : Cx where
  prog := P
  w := w
  K := K
  mg := mg
  base := base
  A := A.deeper (envOfC qual scope s.heap.objs.size f cd)
  N := N
  s₀ := s
  H₀ := H
  env := envOfC qual scope s.heap.objs.size f cd
  outer := outer
  stack := envOfC qual scope s.heap.objs.size f cd :: outer
  ex := []
  calm := true
  fn := fun _ => true
  pn := []
  xe := fun e s' => wpAny (model P w) (A.deeper (envOfC qual scope s.heap.objs.size f cd)) (leaving (envOfC qual scope s.heap.objs.size f cd) e) (fun _ s'' => CX outer H s E e s'') (fun e' s'' => CX outer H s E e' s'') s'

theorem cell_has {sc : Scope} {n : Nat} {x : Str} (h : sc.names.lookup x = some .cell) : ∃ c, (cellsFrom n sc.names []).lookup x = some c := by
  have q := PySem.W.cellsFrom_some sc.names n [] (.inl h)
  exact Option.isSome_iff_exists.mp q

theorem inv_start {CX : CXT} {P : Program} {w : World} {K : PySem.W.Frag} {mg : Str → Option Value} {base : Heap} {N ps : List Str} {qual : Str} {scope : Scope} {f : Addr} {cd : Value} {A : Around} {outer : List Env} {s s1 : Shared} {H : Hp} {E : XK} {us : List Value} {vs : List V}
    (S : FnScope N ps scope) (hd : A.handled = none) (e0 : Env0 P w K mg base A outer s H) (hl : vs.length = ps.length) (r : Vals vs us)
    (x : InCallC s s.heap.objs.size (bindL (envOfC qual scope s.heap.objs.size f cd).kindOf (ps.zip us) fun _ => none) (cellsFrom (s.heap.objs.size + 1) scope.names []) (bindC (envOfC qual scope s.heap.objs.size f cd).kindOf (ps.zip us) fun _ => none) s1) :
    Inv (cxOf CX P w K mg base N qual scope f cd A outer s H E) [] (start N vs) H s1 := by
  have hpl : ps.length ≤ N.length := by have := congrArg List.length S.pre; rw [List.length_take] at this; omega
  obtain ⟨h1, tk, rfl, hk⟩ := x.done
  have noA : ∀ b : Addr, b ∉ (cxOf CX P w K mg base N qual scope f cd A outer s H E).ex := fun b z => absurd (show b ∈ ([] : List Addr) from z) (by simp)
  refine ⟨⟨e0.mod, S.kind, rfl, rfl, Nat.le_refl _, fun y z c h1 h2 => ?_, fun y hy => ?_, fun y c _ h => ?_, fun _ => hd, Around.frames_deeper e0.frames, .inr ⟨rfl, rfl⟩, fun b z => absurd z (noA b), e0.bs, e0.bsz, fun b _ _ => noA b, fun b z => absurd z (noA b), e0.funs, e0.frf⟩,
    rfl, e0.bare, Un.kept hk, ⟨_, x.toInCall.ns, fun i y v h1 h2 h3 => ?_⟩, fun y c h => ⟨_, x.cell y c h⟩, e0.hok.fresh (Nat.le_refl _), fun y c h => ?_, fun p hp => absurd (show p ∈ ([] : List (Addr × Obj)) from hp) (by simp), e0.hok.kept hk, ?_⟩
  · exact name_of_addr x.apart (PySem.mem_of_lookup h1) (PySem.mem_of_lookup h2)
  · have hy : scope.names.lookup y = some .cell ∨ scope.names.lookup y = some .free := hy
    rcases hy with hy | hy
    · exact cell_has hy
    · exact absurd rfl (S.nofree _ (PySem.mem_of_lookup hy))
  · exact Nat.le_of_lt (x.above y c (PySem.mem_of_lookup h))
  · have hi : i < vs.length := by
      unfold start at h2
      by_cases hi : i < vs.length
      · exact hi
      · rw [List.getElem?_append_right (by simpa using hi)] at h2
        rw [List.getElem?_replicate] at h2
        split at h2 <;> cases h2
    have ha : vs[i]? = some v := by
      unfold start at h2
      rw [List.getElem?_append_left (by simpa using hi), List.getElem?_map] at h2
      cases e : vs[i]? with
      | none => rw [e] at h2; cases h2
      | some a => rw [e] at h2; cases h2; rfl
    obtain ⟨u, hu, rv⟩ := r.get ha
    have hp : ps[i]? = some y := by
      rw [← S.pre, List.getElem?_take_of_lt (by omega)]; exact h1
    have ndP : ps.Nodup := by rw [← S.pre]; exact S.nd.sublist (List.take_sublist _ _)
    refine ⟨u, rv, ?_⟩
    rcases S.par y (List.mem_of_getElem? hp) with k | k
    · exact .inl ⟨k, bindL_get ndP hp hu k⟩
    · obtain ⟨c, e⟩ := cell_has (n := s.heap.objs.size + 1) k
      refine .inr ⟨.inl k, c, e, ?_⟩
      have q := x.cell y c e
      rw [bindC_get ndP hp hu (by show scope.names.lookup y ≠ _; rw [k]; decide)] at q
      exact q
  · exact e0.hok.fresh (Nat.le_of_lt (x.above y c (PySem.mem_of_lookup h)))
  · unfold start
    show _ = N.length
    rw [List.length_append, List.length_map, List.length_replicate]
    omega

/-- THE RULE: a def (or a method) of the text, by its body. The body's reading t is chosen for each entry; it is run at the parameters' values -/
theorem fn_of {CX : CXT} {P : Program} {w : World} {K : PySem.W.Frag} {mg : Str → Option Value} {base : Heap} {k : Nat} {f : Addr} {name qual : Str} {params : Arguments} {body : List Stmt} {scope : Scope} {dV kV doc pm cdv ct oc : Value} {an od : Option Addr}
    {osl : Array (Option Value)} {N ps : List Str} {sp : Sp} (lk : K.lookup f = some ⟨oc, od, .func (PySem.W.fnOf name qual params body scope dV kV doc pm an cdv ct), osl⟩) (hcd : PySem.W.codeIn K cdv qual = true) (S : FnScope N ps scope)
    (len : ∀ vs H Q E, sp vs H Q E → vs.length = ps.length)
    (hbody : ∀ (A : Around) (outer : List Env) (s : Shared) (H : Hp) (vs : List V) (Q : VK) (E : XK), Room k (A.deeper (envOfC qual scope s.heap.objs.size f cdv)) → sp vs H Q E →
      ∃ t, PSs (cxOf CX P w K mg base N qual scope f cdv A outer s H E) body t ∧ t { nx := fun _ H' => Q .non H', rt := Q } (start N vs) H) :
    FnOk P w K mg base CX (k + 1) f (PySem.W.fnOf name qual params body scope dV kV doc pm an cdv ct) ps sp := by
  refine ⟨len, fun A outer s H args us vs Q E hr e0 hb r hsp => ?_⟩
  have hl := len _ _ _ _ hsp
  have KX : K.In s.heap := e0.mod.kin.keeps fun b o e => (e0.bs b o e).1
  have lim : s.heap.NoLimit := e0.mod.nolimit.keeps fun b o e => (e0.bs b o e).1
  have hkind : ∀ y ∈ ps.zip us, scope.names.lookup y.1 = some .local ∨ (scope.names.lookup y.1 = some .cell ∧ ((cellsFrom (s.heap.objs.size + 1) scope.names []).lookup y.1).isSome = true) := fun ⟨n, v⟩ hy => by
    rcases S.par n (List.of_mem_zip hy).1 with q | q
    · exact .inl q
    · exact .inr ⟨q, PySem.W.cellsFrom_some _ _ _ (.inl q)⟩
  refine codeAny_call_function hr.depth (KX _ _ lk) rfl S.co S.gen rfl (PySem.W.codeRec_of KX hcd) (hb _ _ _ _ ?_)
  refine wpAny_newFunctionEnv_cells S.kind hkind fun env he s1 x => ?_
  subst he
  refine ⟨lim.keeps x.toInCall.keep, codeAny_func ?_⟩
  obtain ⟨t, ht, hq⟩ := hbody A outer s H vs Q E (hr.deeper _) hsp
  have I : Inv (cxOf CX P w K mg base N qual scope f cdv A outer s H E) [] (start N vs) H s1 := inv_start S hr.hd e0 hl r x
  refine wpAny_mono (ht [] s1 (start N vs) H _ I hq) (fun fl s' hs => ?_) fun e s' hs => hs
  have fin : ∀ {σ' : St} {H' : Hp} {v : V} {u : Value}, Inv (cxOf CX P w K mg base N qual scope f cdv A outer s H E) [] σ' H' s' → RelV v u → Q v H' → CE outer P w H s Q u s' :=
    fun {σ' H' v u} J rv q => ⟨v, H', J.os, J.bare, J.base, J.hok, rv, q⟩
  cases fl with
  | ret u =>
    obtain ⟨v, σ', H', J, rv, q⟩ := hs
    exact fin J rv q
  | next =>
    obtain ⟨σ', H', J, q⟩ := hs
    exact fin (v := V.non) (u := Value.none) J rfl q
  | brk =>
    obtain ⟨_, _, _, q⟩ := hs
    exact False.elim q
  | cont =>
    obtain ⟨_, _, _, q⟩ := hs
    exact False.elim q
end L2

namespace L2
open PySem PySem.Spec PyProof.Rows
section
variable {X : Cx} {x : Str} {p pos : Pos} {e : Expr} {es : List Expr} {t : TA} {id T : String} {r : List V → Hp → VK → Prop}

def tCB (r : List V → Hp → VK → Prop) (t : TA) : TE := fun σ H Q => t σ H fun vs H1 => r vs H1 Q
/-- f(e, ..), f a built-in function -/
theorem pe_callB (hc : CallR X (.builtin id) r) (hg : Gl X x) (hm : X.mg x = none) (hv : bootBuiltins x = some (.builtin id)) (ha : PA X (e :: es) t) (hn : x ≠ "__name__" := by decide) (hdb : (x == ("__debug__" : Str)) = false := by decide)
    (he : starEach (e :: es) X.env = (false, eval e X.env) :: starEach es X.env := by rfl) (hpl : (backTo pos (starEach es X.env)).any (·.1) = false := by rfl) : PE X (.Call (.Name x p) (e :: es) [] pos) (tCB r t) := by
  intro pins s σ H Q I h
  refine wpAny_Call_Name_kw (ld_blt I hg hm hv ?_ hn hdb)
  exact PyProof.Rows.callWith_builtin1 (thn (ha pos pins s σ H _ I h) fun us s1 ⟨vs, H1, I1, r1, q1⟩ => hc pins s1 σ H1 vs us Q I1 r1 q1) he hpl
/-- T(e, ..), T a built-in type -/
theorem pe_callTy (hc : CallR X (.type T) r) (hg : Gl X x) (hm : X.mg x = none) (hv : bootBuiltins x = some (.type T)) (ha : PA X (e :: es) t) (hn : x ≠ "__name__" := by decide) (hdb : (x == ("__debug__" : Str)) = false := by decide)
    (he : starEach (e :: es) X.env = (false, eval e X.env) :: starEach es X.env := by rfl) (hpl : (backTo pos (starEach es X.env)).any (·.1) = false := by rfl) : PE X (.Call (.Name x p) (e :: es) [] pos) (tCB r t) := by
  intro pins s σ H Q I h
  refine wpAny_Call_Name_kw (ld_blt I hg hm hv ?_ hn hdb)
  exact PyProof.Rows.callWith_type1 (thn (ha pos pins s σ H _ I h) fun us s1 ⟨vs, H1, I1, r1, q1⟩ => hc pins s1 σ H1 vs us Q I1 r1 q1) he hpl
end
end L2

namespace HT
open PySem PyProof.Rows

/-- t < u of tuples of ints -/
def lexLt : List Int → List Int → Bool
  | [], [] => false
  | [], _ :: _ => true
  | _ :: _, [] => false
  | x :: xs, y :: ys => if x = y then lexLt xs ys else decide (x < y)
section
open PySem.SeqAt
open PySem.AutoSeq1 (wpAny_loadPart')
open PySem.MeetsSeq PySem.MeetsSeq2 PySem.MeetsSeq3

end

section
variable {prog : Program} {w : World} {A : Around} {E : Value → Shared → Prop} {s : Shared}

/-! ### t[a:b], not the whole -/
/-- a slice's bound as a place among n (d where it is left out) -/
def sIx (n d : Nat) : Option Int → Nat
  | none => d
  | some v => if v < 0 then (v + (n : Int)).toNat else min v.toNat n
end
end HT

namespace L2
open PySem PySem.Spec PyProof.Rows

/-! ### the parts of a slice -/
abbrev TO := St → Hp → (Option Int → Hp → Prop) → Prop
/-- a slice's part (left out, or an int) -/
def PO (X : Cx) (e : Option Expr) (t : TO) : Prop :=
  ∀ (pins : List (Addr × Obj)) (s : Shared) (σ : St) (H : Hp) (Q : Option Int → Hp → Prop), Inv X pins σ H s → t σ H Q →
    wpAny (model X.prog X.w) X.A (evalPart e X.env) (fun u s' => ∃ o H', Inv X pins σ H' s' ∧ IsPart u o ∧ Q o H') X.xe s
def tNoPart : TO := fun _ H Q => Q none H
def tPart (t : TE) : TO := fun σ H Q => t σ H fun x H1 => ∃ i, x = .int i ∧ Q (some i) H1

section
variable {X : Cx} {e : Expr} {te : TE} {lo hi : Option Expr} {tl th : TO} {pos p2 : Pos}

theorem po_none : PO X none tNoPart := by
  intro pins s σ H Q I h
  rw [evalPart_none]
  exact wpAny_pure ⟨none, H, I, .none, h⟩
theorem po_some (h : PE X e te) : PO X (some e) (tPart te) := by
  intro pins s σ H Q I hw
  rw [evalPart_some]
  refine thn (h pins s σ H _ I hw) fun u s1 ⟨x, H1, I1, r1, q1⟩ => ?_
  obtain ⟨i, rfl, q⟩ := q1
  obtain ⟨t, rfl⟩ := r1
  exact ⟨some i, H1, I1, .int i t, q⟩

/-- what a slice of a value is, by values: the slice object stands at sl -/
def SlR (X : Cx) (r : V → Option Int → Option Int → Hp → VK → Prop) : Prop :=
  ∀ (pins : List (Addr × Obj)) (s : Shared) (σ : St) (H : Hp) (x : V) (v vl vu : Value) (lo hi : Option Int) (sl : Addr) (Q : VK), Inv X pins σ H s → RelV x v → s.heap.IsSliceOf sl vl vu .none → IsPart vl lo → IsPart vu hi → r x lo hi H Q →
    ∃ T id, typeLookup (.type T) "__getitem__" = pure (some (.builtin id)) ∧ s.TypeIs v T ∧ wpAny (model X.prog X.w) X.A (getItem v (.ref sl)) (EP X pins σ Q) X.xe s
def tSl (r : V → Option Int → Option Int → Hp → VK → Prop) (te : TE) (tl th : TO) : TE := fun σ H Q => te σ H fun x H1 => tl σ H1 fun l H2 => th σ H2 fun u H3 => r x l u H3 Q
/-- a[lo:hi], any a -/
theorem pe_slice {r : V → Option Int → Option Int → Hp → VK → Prop} (hr : SlR X r) (he : PE X e te) (hl : PO X lo tl) (hu : PO X hi th) : PE X (.Subscript e (.Slice lo hi none p2) pos) (tSl r te tl th) := by
  intro pins s σ H Q I h
  refine Subscript_ (thn (he pins s σ H _ I h) fun v s1 ⟨x, H1, I1, r1, q1⟩ => ?_)
  refine wpAny_Slice (thn (hl pins s1 σ H1 _ I1 q1) fun vl s2 ⟨l, H2, I2, pl, q2⟩ => thn (hu pins s2 σ H2 _ I2 q2) fun vu s3 ⟨u, H3, I3, pu, q3⟩ => ?_)
  rw [evalPart_none]
  refine wpAny_pure ?_
  have I4 : Inv X pins σ H3 { s3 with heap := s3.heap.push { cls := .type "slice", data := .fields #[vl, vu, .none] } } := I3.kept (t' := s3.toks) fun b ob q => Heap.get?_push_of_some _ q
  obtain ⟨T, id, hT, ht, hg⟩ := hr pins { s3 with heap := s3.heap.push { cls := .type "slice", data := .fields #[vl, vu, .none] } } σ H3 x v vl vu l u s3.heap.objs.size Q I4 r1 (Heap.IsSliceOf.new ..) pl pu q3
  show wpAny (model X.prog X.w) X.A (subscriptTail e (.Slice lo hi none p2) v (.ref s3.heap.objs.size)) (EP X pins σ Q) X.xe { s3 with heap := s3.heap.push { cls := .type "slice", data := .fields #[vl, vu, .none] } }
  exact tail_any (ops := [.ref s3.heap.objs.size, v]) ht hT hg (by with_unfolding_all rfl)

/-- the items of xs[lo:hi] -/
def cutV (xs : List V) (lo hi : Option Int) : List V := (xs.drop (HT.sIx xs.length 0 lo)).take (HT.sIx xs.length xs.length hi - HT.sIx xs.length 0 lo)
theorem cutV_length (xs : List V) (lo hi : Option Int) : (cutV xs lo hi).length ≤ xs.length := by
  unfold cutV
  rw [List.length_take, List.length_drop]
  omega
/-- t[lo:hi], not the whole of it (the whole would be t itself) -/
def rSlT (K : PySem.W.Frag) : V → Option Int → Option Int → Hp → VK → Prop := fun x lo hi H Q => ∃ a xs, x = .ref a ∧ SqT K H a xs ∧
  ¬ (HT.sIx xs.length 0 lo = 0 ∧ HT.sIx xs.length xs.length hi = xs.length) ∧ ∀ p, H p = none → Q (.ref p) (upd H p (.tup (cutV xs lo hi)))
/-! ### t < u, t + u -/
def rLtT (K : PySem.W.Frag) : R2 := fun x y H Q => ∃ a b ns ms, x = .ref a ∧ y = .ref b ∧ SqT K H a (ns.map V.int) ∧ SqT K H b (ms.map V.int) ∧ Q (.bl (HT.lexLt ns ms)) H
/-- t + u, t not empty: u empty gives t itself -/
def rCatT (K : PySem.W.Frag) : R2 := fun x y H Q => ∃ a b xs ys, x = .ref a ∧ y = .ref b ∧ SqT K H a xs ∧ SqT K H b ys ∧ xs ≠ [] ∧ xs.length + ys.length ≤ sizeLine ∧
  (ys = [] → Q (.ref a) H) ∧ (ys ≠ [] → ∀ p, H p = none → Q (.ref p) (upd H p (.tup (xs ++ ys))))
theorem Vals.nil_iff {xs : List V} {us : List Value} (r : Vals xs us) : us = [] ↔ xs = [] := by
  cases r with
  | nil => simp
  | cons _ _ => simp
end
end L2

namespace L2
open PySem PySem.Spec PyProof.Rows

/-! ### places -/
/-- the place that an index of any sign means -/
def ixN (n : Nat) (i : Int) : Option Nat := if 0 ≤ i then (if i < n then some i.toNat else none) else if -(n : Int) ≤ i then some (i + n).toNat else none
def atI {α : Type} (xs : List α) (i : Int) : Option α := (ixN xs.length i).bind fun j => xs[j]?
theorem ixN_seq {n : Nat} {i : Int} {j : Nat} (h : ixN n i = some j) : seqIndex? i n = some j ∧ j < n ∧ -(n : Int) ≤ i ∧ i < n := by
  unfold ixN at h
  by_cases h0 : 0 ≤ i
  · rw [if_pos h0] at h
    by_cases h1 : i < n
    · rw [if_pos h1] at h
      have e : i.toNat = j := Option.some.inj h
      exact ⟨by rw [seqIndex_of h0 h1, e], by omega, by omega, h1⟩
    · rw [if_neg h1] at h; cases h
  · rw [if_neg h0] at h
    by_cases h1 : -(n : Int) ≤ i
    · rw [if_pos h1] at h
      have e : (i + n).toNat = j := Option.some.inj h
      exact ⟨by rw [seqIndex_neg (by omega) h1, e], by omega, h1, by omega⟩
    · rw [if_neg h1] at h; cases h
theorem atI_get {α : Type} {xs : List α} {i : Int} {v : α} (h : atI xs i = some v) : ∃ j, seqIndex? i xs.length = some j ∧ xs[j]? = some v ∧ j < xs.length ∧ -(xs.length : Int) ≤ i ∧ i < xs.length := by
  unfold atI at h
  cases e : ixN xs.length i with
  | none => rw [e] at h; cases h
  | some j =>
    rw [e] at h
    obtain ⟨h1, h2, h3, h4⟩ := ixN_seq e
    exact ⟨j, h1, h, h2, h3, h4⟩
theorem atI_nat {α : Type} {xs : List α} {j : Nat} {v : α} (h : xs[j]? = some v) : atI xs (j : Int) = some v := by
  have hj : j < xs.length := (List.getElem?_eq_some_iff.mp h).1
  have e : ixN xs.length (j : Int) = some j := by
    unfold ixN
    rw [if_pos (by omega), if_pos (by omega)]; simp
  unfold atI; rw [e]; exact h
/-! ### what may be subscripted -/
/-- what stands as an index of a plain subscript -/
def PlainIx (b : Expr) : Prop := ∀ o i, subscripted b false o i = operate [o, i] (getItem o i)
/-- a subscript by values -/
def IxR (X : Cx) (r : R2) : Prop :=
  ∀ (value slice : Expr) (pins : List (Addr × Obj)) (s : Shared) (σ : St) (H : Hp) (x y : V) (v u : Value) (Q : VK), Inv X pins σ H s → RelV x v → RelV y u → r x y H Q →
    subscripted slice false v u = operate [v, u] (getItem v u) → wpAny (model X.prog X.w) X.A (subscriptTail value slice v u) (EP X pins σ Q) X.xe s
/-- a call of a builtin's method by values: the receiver, the arguments -/
def MtR (X : Cx) (id : String) (r : V → List V → Hp → VK → Prop) : Prop :=
  ∀ (pins : List (Addr × Obj)) (s : Shared) (σ : St) (H : Hp) (x : V) (xs : List V) (v : Value) (us : List Value) (Q : VK), Inv X pins σ H s → RelV x v → Vals xs us → r x xs H Q →
    wpAny (model X.prog X.w) X.A (call (.builtin id) (v :: us)) (EP X pins σ Q) X.xe s
section
variable {X : Cx} {a b : Expr} {ta tb : TE} {pos : Pos}
/-- a[b] -/
theorem pe_ix {r : R2} (hr : IxR X r) (ha : PE X a ta) (hb : PE X b tb) (hs : PlainIx b) : PE X (.Subscript a b pos) (tOp r ta tb) := by
  intro pins s σ H Q I h
  exact Subscript_ (binT ha hb I h fun v u s2 x y H2 I2 rx ry q => hr a b pins s2 σ H2 x y v u Q I2 rx ry q (hs _ _))

def rIxL (K : PySem.W.Frag) : R2 := fun x y H Q => ∃ p xs i v, x = .ref p ∧ y = .int i ∧ SqL K H p xs ∧ atI xs i = some v ∧ Q v H
def rIxT (K : PySem.W.Frag) : R2 := fun x y H Q => ∃ p xs i v, x = .ref p ∧ y = .int i ∧ SqT K H p xs ∧ atI xs i = some v ∧ Q v H
def rIxS : R2 := fun x y H Q => ∃ z i c, x = .str z ∧ y = .int i ∧ z.length ≤ sizeLine ∧ atI z.cps.toList i = some c ∧ Q (.str ⟨#[c]⟩) H
theorem ix_list : IxR X (rIxL X.K) := by
  intro value slice pins s σ H x y v u Q I rx ry h hs
  obtain ⟨p, xs, i, z, rfl, rfl, hq, he, q⟩ := h
  cases rx
  obtain ⟨t, rfl⟩ := ry
  obtain ⟨its, r, pl, hz⟩ := I.list hq
  obtain ⟨j, h1, h2, h3, h4, h5⟩ := atI_get he
  obtain ⟨w, ew, rw'⟩ := r.get h2
  have hl := r.length
  have hn := line63
  have fin : EP X pins σ Q w s := ⟨z, H, I, rw', q⟩
  by_cases h0 : 0 ≤ i
  · have hj : i.toNat = j := by
      rw [seqIndex_of h0 h5] at h1
      exact Option.some.inj h1
    exact item_listR pl.isList h0 (by omega) (by rw [hj]; simpa using ew) fin hs
  · have hj : (i + (its.toArray.size : Int)).toNat = j := by
      rw [seqIndex_neg (by omega) h4] at h1
      rw [List.size_toArray, ← hl]
      exact Option.some.inj h1
    exact subscriptTail_builtinR (x := w) pl.isList.typeIs slot_list_getitem.lookup
      (wpAny_getItem_list_neg (Q := fun r s' => r = w ∧ EP X pins σ Q r s') pl.isList (by omega) (by rw [List.size_toArray] <;> omega) (by omega) (by rw [hj]; simpa using ew) ⟨rfl, fin⟩) hs
theorem ix_str : IxR X rIxS := by
  intro value slice pins s σ H x y v u Q I rx ry h hs
  obtain ⟨z, i, c, rfl, rfl, hz, he, q⟩ := h
  obtain ⟨t, rfl⟩ := rx
  obtain ⟨t', rfl⟩ := ry
  obtain ⟨j, h1, h2, h3, h4, h5⟩ := atI_get he
  have hl : z.cps.toList.length = z.length := by simp [Str.length]
  rw [hl] at h1 h4 h5
  have hn := line63
  exact tail_any (typeIs_str s z t) slot_str_getitem.lookup (getItem_str (c := c) (by
    have e1 : decide (i < -(2 ^ 63 : Int)) = false := decide_eq_false (by omega)
    have e2 : decide (i ≥ 2 ^ 63) = false := decide_eq_false (by omega)
    rw [e1, e2, Bool.or_false]) (by rw [h1]; simpa using h2) ⟨.str ⟨#[c]⟩, H, I.tok _, ⟨_, rfl⟩, q⟩) hs
/-- list, tuple or str -/
def rIx (K : PySem.W.Frag) : R2 := fun x y H Q => rIxL K x y H Q ∨ rIxT K x y H Q ∨ rIxS x y H Q
/-! ### xs[i] = v, any sign -/
/-- the list's object behind a store -/
theorem mapSeq_set (its : List Value) (n j : Nat) (u : Value) : Obj.mapSeq (·.setIfInBounds j u) { cls := .type "list", data := .seq its.toArray n } = { cls := .type "list", data := .seq (its.set j u).toArray n } := by
  simp [Obj.mapSeq]
theorem Inv.lst {pins : List (Addr × Obj)} {σ : St} {H : Hp} {s : Shared} {p : Addr} {xs : List V} (I : Inv X pins σ H s) (h : H p = some (.lst xs)) :
    ∃ (its : List Value) (n : Nat), Vals xs its ∧ s.heap.get? p = some { cls := .type "list", data := .seq its.toArray n } ∧ xs.length ≤ sizeLine := by
  obtain ⟨z, its, n, r, e⟩ := I.hok p _ h
  exact ⟨its, n, r, e, z⟩
/-- the list at p is written by an update of its object -/
theorem Inv.lstUpd {pins : List (Addr × Obj)} {σ : St} {H : Hp} {s : Shared} {p : Addr} {xs ys : List V} {its its' : List Value} {n n' : Nat} {f : Obj → Obj} (I : Inv X pins σ H s) (h : H p = some (.lst xs))
    (ho : s.heap.get? p = some { cls := .type "list", data := .seq its.toArray n }) (hf : f { cls := .type "list", data := .seq its.toArray n } = { cls := .type "list", data := .seq its'.toArray n' }) (r : Vals ys its') (hz : ys.length ≤ sizeLine) (t : Nat) :
    Inv X pins σ (upd H p (.lst ys)) { s with heap := s.heap.update p f, toks := t } := by
  have e : (s.heap.update p f).get? p = some { cls := .type "list", data := .seq its'.toArray n' } := by
    rw [Heap.get?_update_self f ho (by rw [hf] <;> rfl), hf]
  refine I.write (x := p) (e := p) (by rw [h]; trivial) (.inl rfl) (fun b u hb q => (Heap.get?_update_other _ _ (Ne.symm hb)).trans q) ⟨_, e⟩ ?_
  exact ⟨hz, its', n', r, e⟩
def rSetL : V → V → V → Hp → (Hp → Prop) → Prop := fun o i v H Q => ∃ p xs k j, o = .ref p ∧ i = .int k ∧ H p = some (.lst xs) ∧ ixN xs.length k = some j ∧ Q (upd H p (.lst (xs.set j v)))
theorem set_list : PSet X rSetL := by
  intro pins s σ H o i v ov iv u Q I ro ri rv h
  obtain ⟨p, xs, k, j, rfl, rfl, hp, hj, q⟩ := h
  cases ro
  obtain ⟨t, rfl⟩ := ri
  obtain ⟨its, n, r, ho, hz⟩ := I.lst hp
  obtain ⟨h1, h2, h3, h4⟩ := ixN_seq hj
  have hl := r.length
  have hn := line63
  have I' : Inv X pins σ (upd H p (.lst (xs.set j v))) { s with heap := s.heap.update p (Obj.mapSeq (·.setIfInBounds j u)) } :=
    I.lstUpd hp ho (mapSeq_set its n j u) (r.set rv j) (by rw [List.length_set]; exact hz) s.toks
  by_cases h0 : 0 ≤ k
  · have hk : k.toNat = j := by
      rw [seqIndex_of h0 h4] at h1
      exact Option.some.inj h1
    exact PySem.W.ki_setAt ho h0 (by omega) (by rw [List.size_toArray, ← hl]; exact h4) (by rw [hk]; exact ⟨_, I', q⟩)
  · have hk : (k + (its.toArray.size : Int)).toNat = j := by
      rw [seqIndex_neg (by omega) h3] at h1
      rw [List.size_toArray, ← hl]
      exact Option.some.inj h1
    exact PySem.W.ki_setBack ho (by omega) (by rw [List.size_toArray, ← hl]; exact h3) (by omega) (by rw [hk]; exact ⟨_, I', q⟩)

/-! ### slices -/
theorem slice_bounds (lo hi : Option Int) (n : Nat) : (sliceBounds lo hi none n).1 = ((HT.sIx n 0 lo : Nat) : Int) ∧ (sliceBounds lo hi none n).2.1 = ((HT.sIx n n hi : Nat) : Int) ∧ (sliceBounds lo hi none n).2.2 = 1 := by
  refine ⟨?_, ?_, rfl⟩
  · cases lo with
    | none => simp [sliceBounds, HT.sIx]
    | some i =>
      simp only [sliceBounds, HT.sIx, Option.getD_none, show (1 : Int) > 0 by decide, if_true]
      by_cases h : i < 0
      · simp only [h, if_true] <;> omega
      · simp only [h, if_false] <;> omega
  · cases hi with
    | none => simp [sliceBounds, HT.sIx]
    | some i =>
      simp only [sliceBounds, HT.sIx, Option.getD_none, show (1 : Int) > 0 by decide, if_true]
      by_cases h : i < 0
      · simp only [h, if_true] <;> omega
      · simp only [h, if_false] <;> omega
theorem slicePick_cut (its : List Value) (lo hi : Option Int) : slicePick its.toArray lo hi none = ((its.drop (HT.sIx its.length 0 lo)).take (HT.sIx its.length its.length hi - HT.sIx its.length 0 lo)).toArray := by
  obtain ⟨h1, h2, h3⟩ := slice_bounds lo hi its.toArray.size
  unfold slicePick
  rw [h1, h2, h3]
  simp only [sliceRange_one, pick_run, List.size_toArray] <;> rfl
/-- xs[lo:hi] of a list: a new list -/
def rSlL (K : PySem.W.Frag) : V → Option Int → Option Int → Hp → VK → Prop := fun x lo hi H Q => ∃ a xs, x = .ref a ∧ SqL K H a xs ∧ ∀ p, H p = none → Q (.ref p) (upd H p (.lst (cutV xs lo hi)))
theorem sl_list : SlR X (rSlL X.K) := by
  intro pins s σ H x v vl vu lo hi sl Q I rx hs pl pu h
  obtain ⟨a, xs, rfl, hx, q⟩ := h
  cases rx
  obtain ⟨its, r, ht, hz⟩ := I.list hx
  have hlen := r.length
  refine ⟨"list", _, slot_list_getitem.lookup, ht.isList.typeIs, ?_⟩
  refine wpAny_getItem_list_slice ht.isList hs pl pu .none (by simp) ?_ (by rw [List.size_toArray] <;> omega)
  rw [slicePick_cut, ← hlen]
  refine ⟨.ref s.heap.objs.size, _, I.laid (t' := s.toks) (o := .lst (cutV xs lo hi)) (fun b ob q => Heap.get?_push_of_some _ q) (Nat.le_refl _) ?_, rfl, q _ (I.hok.fresh (Nat.le_refl _))⟩
  exact ⟨Nat.le_trans (cutV_length xs lo hi) hz, _, 0, (r.drop (HT.sIx xs.length 0 lo)).take (HT.sIx xs.length xs.length hi - HT.sIx xs.length 0 lo), Heap.get?_push_size _ rfl⟩

/-! ### in, not in: flat items -/
def flatV : V → Bool
  | .non => true
  | .bl _ => true
  | .int _ => true
  | .str _ => true
  | _ => false
/-- == of flat values -/
def eqV : V → V → Bool
  | .non, .non => true
  | .bl a, .bl b => a == b
  | .bl a, .int b => (if a then 1 else 0) == b
  | .int a, .bl b => a == (if b then 1 else 0)
  | .int a, .int b => a == b
  | .str a, .str b => a == b
  | _, _ => false
/-- the items' answers, read off the values (a value's own answer does not lean on its token) -/
def eqU (x : V) (u : Value) : Bool := match u with
  | .none => eqV .non x
  | .bool b => eqV (.bl b) x
  | .int i _ => eqV (.int i) x
  | .str z _ => eqV (.str z) x
  | _ => false
def inV (x : V) (xs : List V) : Bool := xs.any fun y => eqV y x
/-- x in a list or tuple of flat items -/
def rIn (K : PySem.W.Frag) (neg : Bool) : R2 := fun x y H Q => ∃ p xs, y = .ref p ∧ (SqL K H p xs ∨ SqT K H p xs) ∧ flatV x = true ∧ xs.all flatV = true ∧ Q (.bl (if neg then !inV x xs else inV x xs)) H
/-! ### len, list(x), tuple(x) of any list or tuple that is read -/
theorem call_len_seq : CallR X (.builtin "len") (fun xs H Q => ∃ p ys, xs = [.ref p] ∧ (SqL X.K H p ys ∨ SqT X.K H p ys) ∧ Q (.int ys.length) H) := by
  intro pins s σ H xs us Q I r h
  obtain ⟨p, ys, rfl, hq, q⟩ := h
  obtain ⟨u, rfl, rx⟩ := vals1 r
  cases rx
  have hn := line63
  rcases hq with hq | hq
  · obtain ⟨its, r', pl, hz⟩ := I.list hq
    have hlen := r'.length
    exact Calls.call_len_list pl.isList (by simp only [List.size_toArray] <;> omega) ⟨.int ys.length, H, I.tok _, ⟨s.toks + 1, by rw [List.size_toArray, hlen]⟩, q⟩
  · obtain ⟨its, r', pl, hz⟩ := I.tuple hq
    have hlen := r'.length
    exact len_tuple pl (by simp only [List.size_toArray] <;> omega) ⟨.int ys.length, H, I.tok _, ⟨s.toks + 1, by rw [List.size_toArray, hlen]⟩, q⟩
theorem call_list_of : CallR X (.type "list") (fun xs H Q => ∃ p ys, xs = [.ref p] ∧ (SqL X.K H p ys ∨ SqT X.K H p ys) ∧ ∀ l, H l = none → Q (.ref l) (upd H l (.lst ys))) := by
  intro pins s σ H xs us Q I r h
  obtain ⟨p, ys, rfl, hq, q⟩ := h
  obtain ⟨u, rfl, rx⟩ := vals1 r
  cases rx
  have fin : ∀ (its : List Value), Vals ys its → ys.length ≤ sizeLine → ∀ (h' : Heap) (c' : Nat), (∀ b o', s.heap.get? b = some o' → h'.get? b = some o') →
      h'.get? s.heap.objs.size = some { cls := .type "list", dict := none, data := .seq its.toArray c', slots := #[] } → EP X pins σ Q (.ref s.heap.objs.size) { s with heap := h' } := fun its r' hz h' c' kp e =>
    ⟨.ref s.heap.objs.size, _, I.laid (t' := s.toks) kp (Nat.le_refl _) (show ObjOk X.prog X.w _ h' _ (.lst ys) from ⟨hz, its, c', r', e⟩), rfl, q _ (I.hok.fresh (Nat.le_refl _))⟩
  rcases hq with hq | hq
  · obtain ⟨its, r', pl, hz⟩ := I.list hq
    have hlen := r'.length
    obtain ⟨o, ho, hc, n, hd⟩ := pl.isList
    exact call_list_seq p (.inl rfl) ho hc hd (fun h' c' kp e => fin its r' hz h' c' kp e) (by simp only [List.size_toArray] <;> omega)
  · obtain ⟨its, r', pl, hz⟩ := I.tuple hq
    have hlen := r'.length
    obtain ⟨o, ho, hc, n, hd⟩ := pl
    exact call_list_seq p (.inr rfl) ho hc hd (fun h' c' kp e => fin its r' hz h' c' kp e) (by simp only [List.size_toArray] <;> omega)
theorem call_tuple_of : CallR X (.type "tuple") (fun xs H Q => ∃ p ys, xs = [.ref p] ∧ ((SqL X.K H p ys ∧ ∀ l, H l = none → Q (.ref l) (upd H l (.tup ys))) ∨ (SqT X.K H p ys ∧ Q (.ref p) H))) := by
  intro pins s σ H xs us Q I r h
  obtain ⟨p, ys, rfl, h⟩ := h
  obtain ⟨u, rfl, rx⟩ := vals1 r
  cases rx
  rcases h with ⟨hq, q⟩ | ⟨hq, q⟩
  · obtain ⟨its, r', pl, hz⟩ := I.list hq
    have hlen := r'.length
    refine call_tuple_list pl.isList (fun h' kp => ?_) (by simp only [List.size_toArray] <;> omega)
    have I1 : Inv X pins σ H { s with heap := h' } := I.kept (t' := s.toks) kp
    have I2 : Inv X pins σ (upd H h'.objs.size (.tup ys)) { s with heap := h'.push { cls := .type "tuple", data := .seq its.toArray } } :=
      I1.laid (t' := s.toks) (fun b o e => Heap.get?_push_of_some _ e) (Nat.le_refl _) (show ObjOk X.prog X.w _ _ _ (.tup ys) from ⟨hz, its, r', IsTup.new _ _⟩)
    exact ⟨.ref h'.objs.size, _, I2, rfl, q _ (I1.hok.fresh (Nat.le_refl _))⟩
  · obtain ⟨its, r', pl, hz⟩ := I.tuple hq
    exact call_tuple_same pl ⟨.ref p, H, I, rfl, q⟩

/-! ### the call of a builtin's method: o.m(..) -/
/-- the value is of that builtin type -/
def tyV (K : PySem.W.Frag) (T : String) (x : V) (H : Hp) : Prop := match x with
  | .str _ => T = "str"
  | .int _ => T = "int"
  | .ref p => (T = "list" ∧ ∃ xs, SqL K H p xs) ∨ (T = "tuple" ∧ ∃ o, K.lookup p = some o ∧ o.cls = .type "tuple" ∧ o.dict = none) ∨
      (T = "dict" ∧ ((∃ kvs, H p = some (.dK kvs)) ∨ ∃ kvs, H p = some (.dT kvs))) ∨ (T = "set" ∧ ∃ S n, H p = some (.set S n))
  | _ => False
def tBM0 (K : PySem.W.Frag) (T : String) (r : V → List V → Hp → VK → Prop) (to : TE) : TE := fun σ H Q => to σ H fun x H1 => tyV K T x H1 ∧ r x [] H1 Q
def tBM (K : PySem.W.Frag) (T : String) (r : V → List V → Hp → VK → Prop) (to : TE) (t : TA) : TE := fun σ H Q => to σ H fun x H1 => tyV K T x H1 ∧ t σ H1 fun xs H2 => r x xs H2 Q
variable {o e : Expr} {es : List Expr} {to : TE} {t : TA} {name : Str} {apos cpos : Pos} {T id : String} {r : V → List V → Hp → VK → Prop}
/- xs.append(e), list.index on a module's tuple .. are MtR facts of 06m -/
end
end L2

namespace L2
open PySem PySem.Spec PyProof.Rows

def MtM (X : Cx) (id : String) (r : V → List V → Hp → VK → Prop) : Prop :=
  ∀ (pins : List (Addr × Obj)) (s : Shared) (σ : St) (H : Hp) (x : V) (xs : List V) (v : Value) (us : List Value) (Q : VK), Inv X pins σ H s → RelV x v → Vals xs us → r x xs H Q →
    wpAny (model X.prog X.w) X.A (call (.builtin id) (v :: us)) (EP X pins σ Q) X.xe s

/-! ### lists of values -/
theorem Vals.rep {xs : List V} {us : List Value} (h : Vals xs us) : ∀ k : Nat, Vals (List.replicate k xs).flatten (List.replicate k us).flatten
  | 0 => .nil
  | k + 1 => by
    rw [List.replicate_succ, List.replicate_succ, List.flatten_cons, List.flatten_cons]
    exact Vals.append h (Vals.rep h k)
theorem foldl_rep (its : List Value) : ∀ (k : Nat) (acc : List Value),
    List.foldl (fun x1 x2 => x1 ++ x2) acc.toArray (List.replicate k its.toArray) = (acc ++ (List.replicate k its).flatten).toArray
  | 0, acc => by simp
  | k + 1, acc => by
    have e : acc.toArray ++ its.toArray = (acc ++ its).toArray := by simp
    have e2 : (acc ++ its) ++ (List.replicate k its).flatten = acc ++ (List.replicate (k + 1) its).flatten := by
      rw [List.replicate_succ, List.flatten_cons, List.append_assoc]
    rw [← e2, ← foldl_rep its k (acc ++ its), ← e, List.replicate_succ, List.foldl_cons]

section
variable {X : Cx} {pins : List (Addr × Obj)} {σ : St} {H : Hp} {s : Shared} {l b : Addr} {xs ys zs : List V}

/-! ### the two steps: a tracked list is rewritten, a new list is laid -/
theorem Inv.lnew {its : List Value} {t' : Nat} (I : Inv X pins σ H s) (hv : Vals ys its) (hz : ys.length ≤ sizeLine) :
    Inv X pins σ (upd H s.heap.objs.size (.lst ys)) { s with heap := s.heap.push { cls := .type "list", data := .seq its.toArray }, toks := t' } :=
  I.laid (fun _ _ q => Heap.get?_push_of_some _ q) (Nat.le_refl _) ⟨hz, its, 0, hv, Heap.get?_push_size _ rfl⟩
theorem Inv.fresh (I : Inv X pins σ H s) : H s.heap.objs.size = none := I.hok.fresh (Nat.le_refl _)
theorem Inv.lstM (I : Inv X pins σ H s) (hH : H l = some (.lst xs)) : xs.length ≤ sizeLine ∧ ∃ (its : List Value) (n : Nat), Vals xs its ∧ xs.length = its.length ∧ s.heap.get? l = some { cls := .type "list", data := .seq its.toArray n } := by
  obtain ⟨z, its, n, r, e⟩ := I.hok l _ hH
  exact ⟨z, its, n, r, r.length, e⟩

theorem notLongL {n : Nat} (h : n ≤ sizeLine) : Builtin.List.listTooLong n = false := by
  unfold Builtin.List.listTooLong
  exact decide_eq_false (by omega)
end

section
variable {X : Cx}

/-! ### methods -/
def rAppend : V → List V → Hp → VK → Prop := fun x vs H Q => ∃ l xs y, x = .ref l ∧ vs = [y] ∧ H l = some (.lst xs) ∧ xs.length < sizeLine ∧ Q .non (upd H l (.lst (xs ++ [y])))
def rExtend : V → List V → Hp → VK → Prop := fun x vs H Q => ∃ l b xs zs, x = .ref l ∧ vs = [.ref b] ∧ H l = some (.lst xs) ∧ H b = some (.lst zs) ∧ xs.length + zs.length ≤ sizeLine ∧ Q .non (upd H l (.lst (xs ++ zs)))
def rPop : V → List V → Hp → VK → Prop := fun x vs H Q => ∃ l xs y, x = .ref l ∧ vs = [] ∧ H l = some (.lst xs) ∧ xs[xs.length - 1]? = some y ∧ Q y (upd H l (.lst xs.dropLast))
def rPopAt : V → List V → Hp → VK → Prop := fun x vs H Q => ∃ l xs i k y, x = .ref l ∧ vs = [.int i] ∧ H l = some (.lst xs) ∧ -(2 ^ 63) ≤ i ∧ i < 2 ^ 63 ∧ seqIndex? i xs.length = some k ∧ xs[k]? = some y ∧ Q y (upd H l (.lst (xs.eraseIdx k)))
def rReverse : V → List V → Hp → VK → Prop := fun x vs H Q => ∃ l xs, x = .ref l ∧ vs = [] ∧ H l = some (.lst xs) ∧ Q .non (upd H l (.lst xs.reverse))
def rClear : V → List V → Hp → VK → Prop := fun x vs H Q => ∃ l xs, x = .ref l ∧ vs = [] ∧ H l = some (.lst xs) ∧ Q .non (upd H l (.lst []))
/-! ### list + list, list += list, list * int -/
def rCat : R2 := fun x y H Q => ∃ l b xs zs, x = .ref l ∧ y = .ref b ∧ H l = some (.lst xs) ∧ H b = some (.lst zs) ∧ xs.length + zs.length ≤ sizeLine ∧ ∀ p, H p = none → Q (.ref p) (upd H p (.lst (xs ++ zs)))
/-- a list times an int (a negative one is nothing) -/
def rRep : R2 := fun x y H Q => ∃ l k xs, x = .ref l ∧ y = .int k ∧ H l = some (.lst xs) ∧ -(2 ^ 63) ≤ k ∧ k < 2 ^ 63 ∧ xs.length * k.toNat ≤ sizeLine ∧
  ∀ p, H p = none → Q (.ref p) (upd H p (.lst (List.replicate k.toNat xs).flatten))
theorem len_rep {α : Type} (xs : List α) (k : Nat) : (List.replicate k xs).flatten.length = k * xs.length := by
  induction k with
  | zero => simp
  | succ k ih => rw [List.replicate_succ, List.flatten_cons, List.length_append, ih, Nat.succ_mul, Nat.add_comm]
theorem op_rep : OpR X (binaryOp .Mult) rRep := by
  intro pins s σ H x y v u Q I rx ry h
  obtain ⟨l, k, xs, rfl, rfl, hH, h1, h2, hz, q⟩ := h
  cases rx
  obtain ⟨t, rfl⟩ := ry
  obtain ⟨z, its, n, r, hl, e⟩ := I.lstM hH
  have hlen : its.toArray.size * k.toNat ≤ sizeLine := by rw [List.size_toArray, ← hl]; exact hz
  have hcap : ¬ its.toArray.size * k.toNat > (2 ^ 63 - 1) / 8 := by
    have : (sizeLine : Nat) ≤ (2 ^ 63 - 1) / 8 := by decide
    omega
  have hfit : ¬ (!Builtin.List.listFitsIndex k) = true := by
    rw [fitsIndex_both h1 h2]
    exact Bool.false_ne_true
  have hlong : ¬ Builtin.List.listTooLong (its.toArray.size * k.toNat) = true := by
    rw [notLongL hlen]
    exact Bool.false_ne_true
  have hnew : List.foldl (fun x1 x2 => x1 ++ x2) #[] (List.replicate (if its.toArray.isEmpty = true then 0 else k.toNat) its.toArray) = (List.replicate k.toNat its).flatten.toArray := by
    have f0 : ∀ m : Nat, List.foldl (fun x1 x2 => x1 ++ x2) #[] (List.replicate m its.toArray) = (List.replicate m its).flatten.toArray := fun m => by
      have := foldl_rep its m []
      rw [List.nil_append] at this
      exact this
    rw [f0]
    cases its with
    | nil => simp
    | cons a r' => rw [if_neg (by simp)]
  refine wpAny_binaryOp_repeat_ref (T := "list") (U := "int") (by decide) ⟨_, e, rfl⟩ (fun s' => typeIs_int s' k t) noFill_list_mul F.fills_int_mul F.slot_int_rmul repeat_list F.slot_int_index.lookup
    (call_meets F.slot_int_rmul (typeIs_int s k t) F.entry_int_rmul (F.args_int_rmul_2 _ _) (int___rmul___int_list k t l its.toArray n)
      ⟨e, rfl, ⟨_, e, rfl⟩, call_meets F.slot_list_mul ⟨_, e, rfl⟩ F.entry_list_mul (F.args_list_mul_2 _ _) (AutoListH.list___mul___list_int_3 l its.toArray n k t hfit hcap hlong) ⟨e, ?_⟩⟩)
  rw [hnew]
  exact ⟨.ref _, _, I.lnew (t' := s.toks) (r.rep k.toNat) (by rw [len_rep, Nat.mul_comm]; exact hz), rfl, q _ I.fresh⟩

/-! ### del xs[i] -/
end

/-! ### xs[a:b] = ys -/
section
variable {prog : Program} {w : World} {A : Around} {E : Value → Shared → Prop} {s : Shared}
end

section
variable {X : Cx}
end
end L2

namespace L2
open PySem PySem.Spec PyProof.Rows

/-! ### lists of pairs as tables -/
section
variable {κ : Type} [DecidableEq κ]
def valV (kvs : List (κ × V)) (k : κ) : Option V := (kvs.find? fun kv => decide (kv.1 = k)).map (·.2)
/-- in its place, or at the end -/
def putK (kvs : List (κ × V)) (k : κ) (v : V) : List (κ × V) :=
  if (kvs.any fun kv => decide (kv.1 = k)) = true then kvs.map (fun kv => if kv.1 = k then (kv.1, v) else kv) else kvs ++ [(k, v)]
def dropK (kvs : List (κ × V)) (k : κ) : List (κ × V) := kvs.filter fun kv => decide (kv.1 ≠ k)

end


/-! ### a tracked dict, its keys ints and texts or tuples of these -/
/-- raw entries of a dict with tuple keys -/
abbrev KT (H : Hp) : List (List Key × V) → List (List Key × Addr × Value) → Prop := Paired fun p q => p.1 = q.1 ∧ H q.2.1 = some (.tup (p.1.map kV)) ∧ RelV p.2 q.2.2
section
variable {P : Program} {w : World} {H : Hp} {h : Heap} {a : Addr}
end

/-- what the dict at a holds at the key y -/
def DGet (H : Hp) (a : Addr) (y : V) (r : Option V) : Prop :=
  (∃ kvs k, Rd H a (.dK kvs) ∧ y = kV k ∧ r = valV kvs k) ∨ ∃ kvs k b, Rd H a (.dT kvs) ∧ y = .ref b ∧ H b = some (.tup (k.map kV)) ∧ r = valV kvs k
/-- the heap behind a[y] = v -/
def DPut (H : Hp) (a : Addr) (y v : V) (H' : Hp) : Prop :=
  (∃ kvs k, H a = some (.dK kvs) ∧ y = kV k ∧ kvs.length < sizeLine ∧ H' = upd H a (.dK (putK kvs k v))) ∨
  ∃ kvs k b, H a = some (.dT kvs) ∧ y = .ref b ∧ H b = some (.tup (k.map kV)) ∧ kvs.length < sizeLine ∧ H' = upd H a (.dT (putK kvs k v))
section
variable {X : Cx} {pins : List (Addr × Obj)} {σ : St} {H : Hp} {s : Shared} {a : Addr} {y v : V} {u r : Value} {o : Option V} {A : Around} {E : Value → Shared → Prop}

end

section
variable {X : Cx} {pins : List (Addr × Obj)} {σ : St} {H : Hp} {s : Shared} {a : Addr} {kvs : List (Key × V)} {k : Key} {u : Value} {A : Around} {E : Value → Shared → Prop}
end


/-! ### readings and rules -/
/-- the element of a subscription, not a slice -/
def NoSl (i : Expr) : Prop := ∀ ov iv, subscripted i false ov iv = operate [ov, iv] (getItem ov iv)
/-- d[y] -/
def tDGet (td ty : TE) : TE := fun σ H Q => td σ H fun x H1 => ty σ H1 fun y H2 => ∃ a v, x = .ref a ∧ DGet H2 a y (some v) ∧ Q v H2
/-- y in d, y not in d -/
def tDIn (ty td : TE) : TE := fun σ H Q => ty σ H fun y H1 => td σ H1 fun x H2 => ∃ a o, x = .ref a ∧ DGet H2 a y o ∧ Q (.bl o.isSome) H2
def tDNotIn (ty td : TE) : TE := fun σ H Q => ty σ H fun y H1 => td σ H1 fun x H2 => ∃ a o, x = .ref a ∧ DGet H2 a y o ∧ Q (.bl (!o.isSome)) H2
/-- d[y] = v -/
def sDPut (td ty tv : TE) : TS := fun D σ H => tv σ H fun v H1 => td σ H1 fun x H2 => ty σ H2 fun y H3 => ∃ a H4, x = .ref a ∧ DPut H3 a y v H4 ∧ D.nx σ H4
/-- d[y] op= v -/
def sDAug (td ty tv : TE) (rd : V → V → Hp → VK → Prop) : TS := fun D σ H => td σ H fun x H1 => ty σ H1 fun y H2 => ∃ a v, x = .ref a ∧ DGet H2 a y (some v) ∧
  tv σ H2 fun y2 H3 => rd v y2 H3 fun z H4 => ∃ H5, DPut H4 a y z H5 ∧ D.nx σ H5
/-- del d[y] -/
def sDDel (td ty : TE) : TS := fun D σ H => td σ H fun x H1 => ty σ H1 fun y H2 => ∃ a kvs k, x = .ref a ∧ H2 a = some (.dK kvs) ∧ y = kV k ∧ (valV kvs k).isSome = true ∧ D.nx σ (upd H2 a (.dK (dropK kvs k)))

section
variable {X : Cx} {o i e value : Expr} {pos pos' tpos : Pos} {td ty tv : TE}
end


/-! ### displays -/
/-- {}, to be a dict of the kind that is wanted -/
def tDNewK : TE := fun _ H Q => ∀ p, H p = none → Q (.ref p) (upd H p (.dK []))
def tDNewT : TE := fun _ H Q => ∀ p, H p = none → Q (.ref p) (upd H p (.dT []))
section
variable {X : Cx} {pos : Pos}
end

/-- the pairs of a display, from the left -/
def tPairs : List (TE × TE) → St → Hp → (List (V × V) → Hp → Prop) → Prop
  | [], _, H, Q => Q [] H
  | (tk, tv) :: r, σ, H, Q => tk σ H fun x H1 => tv σ H1 fun y H2 => tPairs r σ H2 fun ps H3 => Q ((x, y) :: ps) H3
abbrev VV : List (V × V) → List (Value × Value) → Prop := Paired fun p q => RelV p.1 q.1 ∧ RelV p.2 q.2
def PPs (X : Cx) (pos : Pos) (keys : List (Option Expr)) (values : List Expr) (trs : List (TE × TE)) : Prop :=
  ∀ (pins : List (Addr × Obj)) (s : Shared) (σ : St) (H : Hp) (Q : List (V × V) → Hp → Prop), Inv X pins σ H s → tPairs trs σ H Q →
    wpAny (model X.prog X.w) X.A (evalPairs (pairTrees keys values X.env pos)) (fun vs s' => ∃ ps H', Inv X pins σ H' s' ∧ VV ps vs ∧ Q ps H') X.xe s
def mergeK (kvs more : List (Key × V)) : List (Key × V) := more.foldl (fun acc kv => putK acc kv.1 kv.2) kvs
/-- {k: v, ..} with keys ints and texts; the new dict stands empty while the pairs are made -/
def tDisp (trs : List (TE × TE)) : TE := fun σ H Q => ∀ p, H p = none → tPairs trs σ (upd H p (.dK [])) fun ps H2 => H2 p = some (.dK []) ∧ ∃ kvs : List (Key × V), ps = kvs.map (fun kv => (kV kv.1, kv.2)) ∧ kvs.length ≤ 15 ∧ Q (.ref p) (upd H2 p (.dK (mergeK [] kvs)))
/-! ### methods -/
/-- a method call o.m(e) of a built-in, with one argument: what must be seen of the text -/
structure M1 (X : Cx) (o : Expr) (m : Str) (apos : Pos) (e : Expr) (cpos : Pos) : Prop where
  base : attributeBase o m X.env (eval o X.env) = eval o X.env
  few : ((backTo cpos (starEach [e] X.env)).all (fun x => !x.1) && (backToKw cpos (keywordEach [] X.env)).all (fun x => x.1.isSome)
    && decide (([e] : List Expr).length + ([] : List Keyword).length + (if ([] : List Keyword).isEmpty then 0 else 1) < 30)) = true
  line : (apos.endLine == cpos.line) = true
  trees : backTo cpos (starEach [e] X.env) = [(false, eval e X.env)]
structure M2 (X : Cx) (o : Expr) (m : Str) (apos : Pos) (e f : Expr) (cpos : Pos) : Prop where
  base : attributeBase o m X.env (eval o X.env) = eval o X.env
  few : ((backTo cpos (starEach [e, f] X.env)).all (fun x => !x.1) && (backToKw cpos (keywordEach [] X.env)).all (fun x => x.1.isSome)
    && decide (([e, f] : List Expr).length + ([] : List Keyword).length + (if ([] : List Keyword).isEmpty then 0 else 1) < 30)) = true
  line : (apos.endLine == cpos.line) = true
  trees : backTo cpos (starEach [e, f] X.env) = [(false, eval e X.env), (false, eval f X.env)]

/-- a is a dict, whatever its keys -/
def IsD (H : Hp) (a : Addr) : Prop := (∃ kvs, Rd H a (.dK kvs)) ∨ ∃ kvs, Rd H a (.dT kvs)
section
variable {X : Cx} {pins : List (Addr × Obj)} {σ : St} {H : Hp} {s : Shared} {a : Addr} {y d : V} {u r : Value} {o : Option V} {A : Around} {E : Value → Shared → Prop}
end

def tDGet1 (td ty : TE) : TE := fun σ H Q => td σ H fun x H1 => ∃ a, x = .ref a ∧ IsD H1 a ∧ ty σ H1 fun y H2 => ∃ o, DGet H2 a y o ∧ Q (o.getD .non) H2
def tDGet2 (td ty tx : TE) : TE := fun σ H Q => td σ H fun x H1 => ∃ a, x = .ref a ∧ IsD H1 a ∧ ty σ H1 fun y H2 => tx σ H2 fun z H3 => ∃ o, DGet H3 a y o ∧ Q (o.getD z) H3
/-- d.pop(k): there; d.pop(k, x): there or not -/
def tDPop1 (td ty : TE) : TE := fun σ H Q => td σ H fun x H1 => ∃ a, x = .ref a ∧ IsD H1 a ∧ ty σ H1 fun y H2 => ∃ kvs k v, H2 a = some (.dK kvs) ∧ y = kV k ∧ valV kvs k = some v ∧ Q v (upd H2 a (.dK (dropK kvs k)))
def tDPop2 (td ty tx : TE) : TE := fun σ H Q => td σ H fun x H1 => ∃ a, x = .ref a ∧ IsD H1 a ∧ ty σ H1 fun y H2 => tx σ H2 fun z H3 => ∃ kvs k, H3 a = some (.dK kvs) ∧ y = kV k ∧
  (∀ v, valV kvs k = some v → Q v (upd H3 a (.dK (dropK kvs k)))) ∧ (valV kvs k = none → Q z H3)
section
variable {X : Cx} {o e f : Expr} {apos cpos : Pos} {td ty tx : TE}
end

/-! ### dict(d): a copy -/
section
variable {X : Cx} {pins : List (Addr × Obj)} {σ : St} {H : Hp} {s : Shared} {a : Addr} {kvs : List (Key × V)} {A : Around} {E : Value → Shared → Prop}
end


section
variable {X : Cx} {pins : List (Addr × Obj)} {σ : St} {H : Hp} {s : Shared} {a : Addr} {y : V} {u : Value} {A : Around} {E : Value → Shared → Prop}
end
end L2

namespace Att
open PySem PySem.W PySem.Calls PyProof.Rows

/-! ### the script -/
theorem ints_of_wellAll {P : Params} {h : Heap} : ∀ (ns : List Int) (vs : List Value), WellAll P h vs (ns.map WData.int) → IntsAre vs ns := by
  intro ns
  induction ns with
  | nil =>
    intro vs w
    rw [List.map_nil] at w
    cases w
    exact .nil
  | cons n ns ih =>
    intro vs w
    rw [List.map_cons] at w
    cases w with
    | cons a b =>
      cases a
      exact .cons _ _ (ih _ b)

theorem script_of {l : OpenLaw} {n : Nat} (hn : l.most = some n) {P : Params} {h : Heap} {args : List WData} {vals : List Value}
    (hpre : l.row.toRowW.claim.pre args = true) (hwl : WellAll P h vals args) :
    ∃ a vs ns, vals = [Value.ref a] ∧ args = [WData.list (ns.map WData.int)] ∧ h.get? a = some { cls := .type "list", data := .seq vs.toArray } ∧ IntsAre vs ns ∧ ns.length ≤ n := by
  have hsh : WShape.hasAll [] args [.list .int] = true := (pre_splitW hpre).1
  have hc : l.pre.holds [] { args := args } = true := (pre_splitW hpre).2
  obtain ⟨d, r, rfl, h1, h2⟩ := hasAllW_cons hsh
  obtain rfl := hasAllW_nil h2
  obtain ⟨xs, rfl, h3⟩ := hasW_list h1
  obtain ⟨ns, rfl⟩ := items_int h3
  have hlen : ns.length ≤ n := by
    unfold OpenLaw.pre at hc
    have h4 : (WTm.not (.lt (.lit (.int (n : Int))) (.len (.arg 0)))).holds [] { args := [.list (ns.map .int)] } = true := by
      have h4 := (holds_andW hc).1
      rw [hn] at h4
      exact h4
    have h5 := condW_of h4 (w_not (w_lt w_lit (w_len_list (w_arg rfl))))
    rw [List.length_map] at h5
    refine Nat.le_of_not_lt fun q => ?_
    have q' : (n : Int) < ((ns.length : Nat) : Int) := by omega
    first
      | (rw [decide_eq_true q'] at h5; exact absurd h5 (by decide))
      | (simp at h5; omega)
  cases hwl with
  | cons w1 w2 =>
    cases w2
    cases w1 with
    | list ho hall => exact ⟨_, _, ns, rfl, rfl, ho, ints_of_wellAll ns _ hall, hlen⟩

theorem post_true (l : OpenLaw) (args : List WData) : l.row.toRowW.claim.post args (.bool true) args = true :=
  postW_of (r := l.row.toRowW) (X := (true == true))
    (show WShape.has [] (.bool true) .bool = true by first | rfl | decide | simp [WShape.has, WShape.arms, WShape.armsAll])
    (show (WTm.eq .res (.lit (.bool true))).value [] { args := args, res := some (.bool true), after := args } = some (.bool (true == true)) from w_eq_bool (w_res rfl) w_lit) rfl

/-! ### the attachment: holds_open's last premise (the goal 'hc' behind k_head) from a wpAny of the law's body -/
/-! ### rules over ANY heap (no ledger) from facts about the written part K: the library's own take a ledger (News) for what they write -/
section
variable {prog : Program} {w : World} {A : Around} {E : Value → Shared → Prop} {s : Shared} {K : Frag}

/-! the whole heap as the ledger: makes every rule that writes through a ledger a rule over any heap -/
def noObjs (h : Heap) : Heap := { h with objs := #[] }
def ledger (h : Heap) (L d : Addr) : List (Addr × Obj) := (List.range h.objs.size).filterMap fun a => if a = L ∨ a = d then none else (h.get? a).map fun o => (a, o)
end
end Att

namespace L2
open PySem PySem.Spec PyProof.Rows

theorem vals_ints : ∀ {vs : List Value} {ns : List Int}, IntsAre vs ns → Vals (ns.map V.int) vs
  | _, _, .nil => .nil
  | _, _, .cons n t h => .cons ⟨t, rfl⟩ (vals_ints h)

/-- nothing is tracked but the script, known to the object (or it is an object of the module) -/
def Only (H : Hp) : Prop := ∀ b, H b = none ∨ ∃ o xs, H b = some (.frz o (.lst xs))

/-- THE HEAD: the law's promise, at the heap behind the top. F, the promise of the law's def, may use that base is part of the heap (so K.In base, base.Ns mainGlobals mg stand in Mod) -/
theorem law_call {P : Program} {w : World} {K : PySem.W.Frag} {mg mb : Str → Option Value} {CX : CXT} {k : Nat} {fa a : Addr} {fd : FuncData} {x : Str} {sp : Sp} {s₁ : Shared} {vs : List Value} {ns : List Int}
    (KX : K.In s₁.heap) (hns : s₁.heap.Ns mainGlobals mg) (hb : s₁.heap.Ns builtinsNs mb) (hbb : ∀ x : Str, x ≠ "__name__" → mb x = bootBuiltins x) (hlim : s₁.heap.NoLimit) (hg : s₁.gens = #[])
    (ha : s₁.heap.get? a = some { cls := .type "list", data := .seq vs.toArray }) (hi : IntsAre vs ns) (hl : ns.length ≤ sizeLine) (hr : Room k callerA)
    (F : ∀ base : Heap, K.In base → base.Ns mainGlobals mg → FnOk P w K mg base CX k fa fd [x] sp) (hbind : ∀ (s : Shared) (u : Value), BindsTo s fd ⟨[u], []⟩ [(x, u)])
    (hsp : ∀ H : Hp, Only H → SqL K H a (ns.map V.int) → sp [.ref a] H (fun v _ => v = .bl true) fun _ _ _ => False)
    (hCX : ∀ H e s', CX [] H s₁ (fun _ _ _ => False) e s' → False) :
    codeAny (model P w) callerA (.call (.ref fa) ⟨[.ref a], []⟩) (fun r s' => r = .ok (.ret (.bool true)) ∧ OldK s₁.heap s'.heap ∧ s'.os = s₁.os ∧ AllBare s'.gens) s₁ := by
  have rv := vals_ints hi
  have lenV := hi.length
  -- from an abstract heap in which nothing but the script may be tracked
  have core : ∀ H : Hp, Only H → SqL K H a (ns.map V.int) → HOk P w H s₁.heap → (∀ b, H b ≠ none → b = a) → (H a ≠ none → K.lookup a = none) →
      codeAny (model P w) callerA (.call (.ref fa) ⟨[.ref a], []⟩) (fun r s' => r = .ok (.ret (.bool true)) ∧ OldK s₁.heap s'.heap ∧ s'.os = s₁.os ∧ AllBare s'.gens) s₁ := by
    intro H hO hS hok hA hK
    have base_of : ∀ {b : Addr} {o : Obj}, s₁.heap.get? b = some o → H b = none → (hidT s₁.heap H).get? b = some o := fun e n => hidT_get e n
    have noA : ∀ {b : Addr} {o : Obj} {es : Array DictEntry} {ep : Nat}, s₁.heap.get? b = some o → o.data = .dict es ep → H b = none := fun {b o es ep} e d => by
      cases q : H b with
      | none => rfl
      | some u =>
        have e' : b = a := hA b (by rw [q]; simp)
        subst e'
        rw [ha] at e; cases e
        have d' : Data.seq vs.toArray _ = Data.dict es ep := d
        cases d'
    have nsK : ∀ {b : Addr} {m : Str → Option Value}, s₁.heap.Ns b m → (hidT s₁.heap H).Ns b m := fun {b m} ⟨o, es, ep, e, d, r⟩ => ⟨o, es, ep, base_of e (noA e d), d, r⟩
    have hKb : K.In (hidT s₁.heap H) := fun b o e => base_of (KX b o e) (by
      cases q : H b with
      | none => rfl
      | some u =>
        have e' : b = a := hA b (by rw [q]; simp)
        subst e'
        rw [hK (by rw [q]; simp)] at e; cases e)
    have hM : Mod K mg (hidT s₁.heap H) := ⟨hKb, nsK hns, ⟨mb, nsK hb, hbb⟩, let ⟨mc, h1, h2⟩ := hlim; ⟨mc, nsK h1, h2⟩⟩
    have e0 : Env0 P w K mg (hidT s₁.heap H) callerA [] s₁ H := ⟨rfl, hM, fun b o e => of_hidT e, Nat.le_of_eq (hidT_size _ _), trivial, fun b hb => absurd (show b ∈ ([] : List Addr) from hb) (by simp), hok, .of_eq hg⟩
    refine codeAny_mono ((F _ hKb (nsK hns)).run callerA [] s₁ H ⟨[.ref a], []⟩ [.ref a] [.ref a] _ _ hr e0 (hbind s₁ (.ref a)) (.cons rfl .nil) (hsp H hO hS)) fun r s' h => ?_
    cases r with
    | error e => exact (hCX H e s' h).elim
    | ok fl =>
      cases fl with
      | next => exact False.elim h
      | brk => exact False.elim h
      | cont => exact False.elim h
      | ret u =>
        obtain ⟨v, H', os, bare, un, hok', r', q⟩ := h
        have q' : v = .bl true := q
        subst q'
        obtain rfl : u = Value.bool true := r'
        refine ⟨rfl, OldK.of_keep fun b o e => ?_, os, bare⟩
        cases q : H b with
        | none => exact un.keep b o e q (by intro z; exact absurd (show b ∈ ([] : List Addr) from z) (by simp)) (by simp)
        | some u =>
          rcases hO b with z | ⟨ob, xs, z⟩
          · rw [q] at z; cases z
          · have z2 := un.frzs b ob _ z
            obtain ⟨e1, _⟩ := hok b _ z
            obtain ⟨e2, _⟩ := hok' b _ z2
            rw [e] at e1; cases e1
            exact e2
  cases hk : K.lookup a with
  | some o =>
    -- the script is one of the module's own objects
    have e := KX a o hk
    rw [ha] at e
    cases e
    refine core (fun _ => none) (fun _ => .inl rfl) (.inr ⟨_, vs.toArray, _, hk, rfl, rfl, rfl, by rw [List.size_toArray, lenV]; exact hl, by simpa using rv⟩) (fun b u z => by have z' : (none : Option HO) = some u := z; cases z') (fun b z => absurd rfl z) fun z => absurd rfl z
  | none =>
    refine core (fun b => if b = a then some (.frz { cls := .type "list", data := .seq vs.toArray } (.lst (ns.map V.int))) else none) (fun b => ?_) (.inl (.inr ⟨{ cls := .type "list", data := .seq vs.toArray }, if_pos rfl⟩)) (fun b u z => ?_) (fun b z => ?_) fun _ => hk
    · by_cases hb : b = a
      · exact .inr ⟨_, _, if_pos hb⟩
      · exact .inl (if_neg hb)
    · by_cases hb : b = a
      · have z' := (if_pos hb).symm.trans z
        cases z'
        subst hb
        exact ⟨ha, by rw [List.length_map]; exact hl, vs, _, rv, ha⟩
      · have z' := (if_neg hb).symm.trans z
        cases z'
    · by_cases hb : b = a
      · exact hb
      · exact absurd (if_neg hb) z
end L2

namespace L2
open PySem PySem.Spec PyProof.Rows

abbrev KOf {K : PySem.W.Frag} {h : Heap} (_ : K.In h) : PySem.W.Frag := K

end L2

/- THE LAST THEOREM (shape; LID, My.* are yours):
   My.Adr: a structure of the addresses that your layer names (classes, functions); My.Txt K t: a structure (Prop) of the equations over K;
   My.txt_mk : {K} {implicit addresses ..} (e1 : nsIn K mainGlobals "law" = some (some (.ref f))) (e2 : K.lookup f = some ⟨oc, od, .func (fnOf "law" "law" params body scope dV kV doc pm an cdv ct), sl⟩) (e3 : codeIn K cdv "law" = true) .. : ∃ t, My.Txt K t

set_option maxRecDepth 100000 in
set_option maxHeartbeats 0 in
theorem PySem.Challenge.cw_LID_holds : PySem.Challenge.rw_LID.Holds := by
  w_on; o_law; k_head; (case hw => w_witness2)
  k_fill
  refine L2.walk_of (l := PySem.Challenge.rw_LID) (n := 63) (k := 40) (x := "script") (CX := fun w => ..) (sp := fun _ => My.sp_law) rfl (by decide) rfl ⟨rfl, by decide, by decide⟩ (fun w h Y => PySem.W.kIn_of Y) ?F ?S ?C
  case F =>
    intro w mg fa h KX G hmg
    have T : ∃ t, My.Txt (L2.KOf KX) t := by
      dsimp only [L2.KOf]                          -- K must stand as «<heap const> w.params» for k_is
      refine' My.txt_mk ?e1 ?e2 ?e3 ..
      (case e1 => PySem.W.k_is)                    -- in the order: a name -> its address -> its object -> its parts
      (case e2 => PySem.W.k_is)
      ..
    obtain ⟨t, T⟩ := T
    have e0 := hmg.symm.trans (PySem.W.mg_of KX G T.law)
    cases e0                                       -- fa is the law's own address
    exact ⟨_, fun s u => .of_eq rfl, fun base kb nb => My.law_fn T kb nb⟩     -- if «.of_eq rfl» comes too early: refine' ⟨_, ?b, fun base kb nb => My.law_fn T kb nb⟩; exact fun s u => .of_eq rfl
  case S => exact fun w H a ns hl hO hS => ..
  case C => exact ..
(the tactic k_is has no namespace: write k_is) -/

/-! SHORT WORDS over the layer: a def of the text, its body, what a loop and a test want. -/
namespace L2
open PySem PySem.Spec PyProof.Rows

/-! ### the text by places -/
/-- the j-th statement of a class's body -/
def inClass (s : Stmt) (j : Nat) : Stmt := match s with
  | .ClassDef _ _ _ body _ _ _ _ _ _ _ => body.getD j (.Pass ⟨0, 0, 0, 0⟩)
  | _ => .Pass ⟨0, 0, 0, 0⟩
def defArgs (s : Stmt) : Arguments := match s with
  | .FunctionDef _ a _ _ _ _ _ _ _ _ => a
  | _ => { posonlyargs := [], args := [], vararg := none, kwonlyargs := [], kw_defaults := [], kwarg := none, defaults := [] }
def defBody (s : Stmt) : List Stmt := match s with
  | .FunctionDef _ _ b _ _ _ _ _ _ _ => b
  | _ => []
def defScope (s : Stmt) : Scope := match s with
  | .FunctionDef _ _ _ _ _ _ sc _ _ _ => sc
  | _ => { kind := .function, names := [], isGenerator := false, isCoroutine := false }

/-! ### no exception leaves a def -/
abbrev CX0 : CXT := fun _ _ _ _ _ _ => False
abbrev E0 : XK := fun _ _ _ => False
theorem pass0 {X : Cx} : Passes CX0 X E0 := fun _ _ _ _ _ _ _ h => h.elim

/-! ### a def (or method) of the text as it stands behind the top -/
structure Fun (K : PySem.W.Frag) (x qual : Str) (st : Stmt) (f : Addr) (fd : FuncData) : Prop where
  ex : ∃ (oc : Value) (od : Option Addr) (kV doc pm : Value) (an : Option Addr) (cdv ct : Value) (osl : Array (Option Value)),
    fd = PySem.W.fnOf x qual (defArgs st) (defBody st) (defScope st) .none kV doc pm an cdv ct ∧ K.lookup f = some ⟨oc, od, .func fd, osl⟩ ∧ PySem.W.codeIn K cdv qual = true
  kp : PySem.W.keepIn K (.ref f) = true
section
variable {P : Program} {w : World} {K : PySem.W.Frag} {mg : Str → Option Value} {base : Heap}
/-- THE RULE for a def: its body as a term of rules, and the reading of that term -/
theorem Fun.ok {x qual : Str} {st : Stmt} {f : Addr} {fd : FuncData} {N ps : List Str} {k : Nat} {sp : Sp} (F : Fun K x qual st f fd) (S : FnScope N ps (defScope st)) (len : ∀ vs H Q E, sp vs H Q E → vs.length = ps.length)
    (hbody : ∀ (cdv : Value) (A : Around) (outer : List Env) (s : Shared) (H : Hp) (vs : List V) (Q : VK) (E : XK), Room k (A.deeper (envOfC qual (defScope st) s.heap.objs.size f cdv)) → sp vs H Q E →
      ∃ t, PSs (cxOf CX0 P w K mg base N qual (defScope st) f cdv A outer s H E).nox (defBody st) t ∧ t { nx := fun _ H' => Q .non H', rt := Q } (start N vs) H) : FnOk P w K mg base CX0 (k + 1) f fd ps sp := by
  obtain ⟨oc, od, kV, doc, pm, an, cdv, ct, osl, rfl, lk, hcd⟩ := F.ex
  refine fn_of lk hcd S len fun A outer s H vs Q E hr hsp => ?_
  obtain ⟨t, h, q⟩ := hbody cdv A outer s H vs Q E hr hsp
  exact ⟨t, h.nox, q⟩
/-- how its arguments bind (no defaults): h is «fun _ _ _ _ _ _ us hl => match us, hl with | [_, _], _ => rfl», one _ a parameter -/
theorem Fun.binds {x qual : Str} {st : Stmt} {f : Addr} {fd : FuncData} {ps : List Str} (F : Fun K x qual st f fd)
    (h : ∀ (kV doc pm : Value) (an : Option Addr) (cdv ct : Value) (us : List Value), us.length = ps.length → bindArgs (PySem.W.fnOf x qual (defArgs st) (defBody st) (defScope st) .none kV doc pm an cdv ct) ⟨us, []⟩ = pure (ps.zip us)) : Binds K fd ps [] := by
  obtain ⟨oc, od, kV, doc, pm, an, cdv, ct, osl, rfl, lk, hcd⟩ := F.ex
  exact .all (h kV doc pm an cdv ct)
theorem fun_mk {x qual : Str} {st : Stmt} {f : Addr} {oc : Value} {od an : Option Addr} {osl : Array (Option Value)} {kV doc pm cdv ct : Value} (l : K.lookup f = some ⟨oc, od, .func (PySem.W.fnOf x qual (defArgs st) (defBody st) (defScope st) .none kV doc pm an cdv ct), osl⟩)
    (c : PySem.W.codeIn K cdv qual = true) (k : PySem.W.keepIn K (.ref f) = true) : Fun K x qual st f (PySem.W.fnOf x qual (defArgs st) (defBody st) (defScope st) .none kV doc pm an cdv ct) := ⟨⟨oc, od, kV, doc, pm, an, cdv, ct, osl, rfl, l, c⟩, k⟩
end
theorem hu_of {A : Around} {k : Nat} (hr : Room k A) : A.units + 1 < cLine := Nat.lt_of_le_of_lt (Nat.add_le_add_left (by decide : 1 ≤ 64) _) hr.units
/-! ### expressions in short: the name that stands in the i-th slot -/
section
variable {X : Cx}
theorem pv (i : Nat) {x : Str} {pos : Pos} (hN : X.N[i]? = some x := by rfl) (hv : Vis X.env.scope x := by first | exact Or.inl rfl | exact Or.inr (Or.inl rfl) | exact Or.inr (Or.inr rfl)) (hd : (x == ("__debug__" : Str)) = false := by decide)
    (hcd : (x == ("__classdict__" : Str)) = false := by decide) : PE X (.Name x pos) (tVar i) := pe_var hN hv hd hcd
end

/-! ### tests -/
theorem iteF {A B : Prop} (h : B) : if false = true then A else B := by
  rw [if_neg Bool.false_ne_true]
  exact h
theorem iteT {A B : Prop} (h : A) : if true = true then A else B := by
  rw [if_pos rfl]
  exact h
theorem ite2 {c A B : Prop} [Decidable c] (h1 : c → A) (h2 : ¬ c → B) : if c then A else B := by
  by_cases h : c
  · rw [if_pos h]
    exact h1 h
  · rw [if_neg h]
    exact h2 h
theorem iteNS {c A B : Prop} [Decidable c] (hc : c) (h : B) : if (!decide c) = true then A else B := by
  rw [decide_eq_true hc]
  exact iteF h

/-! ### heaps -/
/-- all that was tracked is as it was -/
def Same (H H' : Hp) : Prop := ∀ b o, H b = some o → H' b = some o
theorem Same.refl (H : Hp) : Same H H := fun _ _ h => h
theorem Same.trans {H H1 H2 : Hp} (a : Same H H1) (b : Same H1 H2) : Same H H2 := fun c o h => b c o (a c o h)
theorem Same.seq {K : PySem.W.Frag} {H H' : Hp} {a : Addr} {xs : List V} (e : Same H H') (h : SqL K H a xs) : SqL K H' a xs := by
  rcases h with (h | ⟨o, h⟩) | h
  · exact .inl (.inl (e _ _ h))
  · exact .inl (.inr ⟨o, e _ _ h⟩)
  · exact .inr h

end L2


namespace L2
open PySem PySem.Spec PyProof.Rows
section
variable {X : Cx}
end
section
variable {κ : Type} [DecidableEq κ]
end
end L2

end

section
set_option Elab.async false
set_option linter.all false
set_option maxRecDepth 100000
set_option maxHeartbeats 4000000
namespace L2
open PySem PySem.Spec PyProof.Rows

/-! ### comprehensions -/
theorem loop_go {prog : Program} {w : World} {A : Around} {R : Result → Shared → Prop} {s : Shared} {elt target iter : Expr} {ifs : List Expr} {scope : Scope} {pos : Pos} {it acc : Value} {env : Env} (I : Nat → Shared → Prop)
    (turn : ∀ n s, I n s → wpAny (model prog w) A (pyNext it) (fun r s1 => match r with
      | none => R (.ok .next) s1
      | some v => wpAny (model prog w) A (letOwnedTupleGo target it v) (fun _ s2 => wpAny (model prog w) A (assign target env v) (fun _ s3 =>
          wpAny (model prog w) A (forIn ifs true fun c r => if r = true then do let ok ← isTrue c env (eval c env); pure (ForInStep.yield ok) else pure (ForInStep.yield r)) (fun ok s4 =>
            if ok = true then wpAny (model prog w) A (eval elt env) (fun x s5 =>
              wpAny (model prog w) A (call (.builtin "list.append") [acc, x]) (fun _ s6 => ∃ m, m < n ∧ I m s6) (fun _ _ => False) s5) (fun _ _ => False) s4
            else ∃ m, m < n ∧ I m s4) (fun _ _ => False) s3) (fun _ _ => False) s2) (fun _ _ => False) s1) (fun _ _ => False) s)
    (n : Nat) (h : I n s) :
    codeAny (model prog w) A (.compLoop (.ListComp elt [⟨target, iter, ifs, 0⟩] scope pos) 0 it acc env) R s := by
  refine codeAny_loop rfl I (fun n s hI => ?_) n h
  show wpAny _ A ((compTurn (.ListComp elt [⟨target, iter, ifs, 0⟩] scope pos) 0 it acc env).onRaise (fun x => do noteFrame x env; theTreesLotGoes x)) _ _ s
  refine wpAny_noted ?_
  rw [compTurn_list]
  refine wpAny_bind (wpAny_standAt (wpAny_bind (wpAny_mono (turn n s hI) (fun r s1 h1 => ?_) fun _ _ h' => h'.elim)))
  cases r with
  | none => exact wpAny_pure h1
  | some v =>
    refine wpAny_bind (wpAny_mono h1 (fun _ s2 h2 => ?_) fun _ _ h' => h'.elim)
    refine wpAny_bind (wpAny_mono h2 (fun _ s3 h3 => wpAny_bind (wpAny_mono h3 (fun ok s4 h4 => ?_) fun _ _ h' => h'.elim)) fun _ _ h' => h'.elim)
    cases ok with
    | false => exact wpAny_pure ⟨rfl, h4⟩
    | true =>
      exact wpAny_bind (wpAny_bind (wpAny_mono h4 (fun x s5 h5 => wpAny_bind (wpAny_mono h5 (fun _ s6 h6 => wpAny_pure (wpAny_pure ⟨rfl, h6⟩)) fun _ _ h' => h'.elim)) fun _ _ h' => h'.elim))

/-- the tests of a comprehension -/
def PF (X : Cx) (ifs : List Expr) (t : TT) : Prop :=
  ∀ (pins : List (Addr × Obj)) (s : Shared) (σ : St) (H : Hp) (Q : Bool → Hp → Prop), Inv X pins σ H s → t σ H Q →
    wpAny (model X.prog X.w) X.A (forIn ifs true fun c r => if r = true then do let ok ← isTrue c X.env (eval c X.env); pure (ForInStep.yield ok) else pure (ForInStep.yield r)) (TP X pins σ Q) X.xe s
def tYes : TT := fun _ H Q => Q true H
theorem pf_nil {X : Cx} : PF X [] tYes := fun pins s σ H Q I h => wpAny_tests_nil ⟨H, I, h⟩
theorem pf_one {X : Cx} {c : Expr} {t : TT} (hc : PT X c t) : PF X [c] t := fun pins s σ H Q I h => wpAny_tests_one (hc pins s σ H Q I h)

/-- the inner context -/
def cxC (X : Cx) (Nc : List Str) (scope : Scope) (cl : List (Str × Addr)) (C : Addr) (fp : List Addr) (s2 : Shared) (H2 : Hp) : Cx where
  prog := X.prog
  w := X.w
  K := X.K
  mg := X.mg
  base := X.base
  A := X.A
  N := Nc
  s₀ := s2
  H₀ := H2
  env := compEnvC scope cl C X.env
  outer := X.stack
  stack := X.stack
  ex := fp
  fn := fun _ => false
  calm := X.calm
  pn := []
  xe := fun _ _ => False

def cstart (src : List (Option Nat)) (σ : St) : St := src.map fun o => match o with
  | none => none
  | some i => (σ[i]?).getD none

/-- the facts about the names: each is seen by computation -/
structure CompOk (N : List Str) (osc : Scope) (Nc : List Str) (src : List (Option Nat)) (scope : Scope) : Prop where
  kind : scope.kind = .function
  nocell : ∀ x ∈ scope.names, x.2 ≠ .cell
  nodup : scope.names.Pairwise fun x y => x.1 ≠ y.1
  free : ∀ x ∈ scope.names, x.2 = .free → osc.names.lookup x.1 = some .cell ∨ osc.names.lookup x.1 = some .free
  len : src.length = Nc.length
  src : ∀ (j i : Nat), src[j]? = some (some i) → ∃ x, Nc[j]? = some x ∧ N[i]? = some x ∧ scope.names.lookup x = some .free

theorem lookup_mem {α : Type} {l : List (Str × α)} {x : Str} {k : α} (h : l.lookup x = some k) : (x, k) ∈ l := by
  induction l with
  | nil => cases h
  | cons p r ih =>
    obtain ⟨y, j⟩ := p
    rw [List.lookup_cons] at h
    split at h
    · rename_i hb
      have e := eq_of_beq hb
      cases h; subst e; exact List.mem_cons_self
    · exact List.mem_cons_of_mem _ (ih h)
theorem lookup_of_mem {α : Type} {l : List (Str × α)} (nd : l.Pairwise fun x y => x.1 ≠ y.1) {x : Str} {k : α} (h : (x, k) ∈ l) : l.lookup x = some k := by
  induction l with
  | nil => cases h
  | cons p r ih =>
    obtain ⟨y, j⟩ := p
    rw [List.pairwise_cons] at nd
    rw [List.lookup_cons]
    rcases List.mem_cons.mp h with e | h
    · cases e; simp
    · have ne := nd.1 _ h
      have : (x == y) = false := beq_eq_false_iff_ne.mpr (Ne.symm ne)
      rw [this]; exact ih nd.2 h

/-- the closure of a comprehension -/
theorem closure_ok {X : Cx} (ok : X.Ok) {scope : Scope} : ∀ (names : List (Str × NameKind)) (acc : List (Str × Addr)), (∀ x ∈ names, x.2 = .free → ∃ c, X.env.cells.lookup x.1 = some c) →
    (∀ x c, (x, c) ∈ acc → X.env.cells.lookup x = some c) →
    ∃ cl, (forIn names acc (fun (p : Str × NameKind) (cs : List (Str × Addr)) => (do
      if p.2 == NameKind.free then
        let c ← cellOf X.env p.1
        pure (ForInStep.yield ((p.1, c) :: cs))
      else pure (ForInStep.yield cs) : Sem (ForInStep (List (Str × Addr)))))) = pure cl ∧ (∀ x c, (x, c) ∈ cl → X.env.cells.lookup x = some c) ∧ (∀ x ∈ names, x.2 = .free → ∃ c, (x.1, c) ∈ cl) ∧ (∀ p ∈ acc, p ∈ cl) := by
  intro names
  induction names with
  | nil => intro acc _ ha; exact ⟨acc, (by rw [List.forIn_nil]), ha, (fun _ h => nomatch h), fun _ h => h⟩
  | cons p r ih =>
    intro acc hf ha
    obtain ⟨x, k⟩ := p
    rw [List.forIn_cons]
    by_cases hk : k = .free
    · subst hk
      obtain ⟨c, hc⟩ := hf _ List.mem_cons_self rfl
      obtain ⟨cl, e, h1, h2, h3⟩ := ih ((x, c) :: acc) (fun y hy => hf y (List.mem_cons_of_mem _ hy)) (fun y d hy => by
        rcases List.mem_cons.mp hy with e | hy
        · cases e; exact hc
        · exact ha y d hy)
      have hcell : cellOf X.env x = pure c := by unfold cellOf; rw [show X.env.cells.lookup x = some c from hc]
      refine ⟨cl, ?_, h1, fun y hy hk => ?_, fun q hq => h3 q (List.mem_cons_of_mem _ hq)⟩
      · simp only [beq_self_eq_true, if_true, hcell, pure_bind]; exact e
      · rcases List.mem_cons.mp hy with e | hy
        · cases e; exact ⟨c, h3 _ List.mem_cons_self⟩
        · exact h2 y hy hk
    · obtain ⟨cl, e, h1, h2, h3⟩ := ih acc (fun y hy => hf y (List.mem_cons_of_mem _ hy)) ha
      have hb : (k == NameKind.free) = false := by simpa using hk
      refine ⟨cl, ?_, h1, fun y hy hk' => ?_, h3⟩
      · simp only [hb, Bool.false_eq_true, if_false, pure_bind]; exact e
      · rcases List.mem_cons.mp hy with e | hy
        · cases e; exact absurd hk' hk
        · exact h2 y hy hk'

theorem closureFor_ok {X : Cx} (ok : X.Ok) {scope : Scope} (hf : ∀ x ∈ scope.names, x.2 = .free → X.env.scope.names.lookup x.1 = some .cell ∨ X.env.scope.names.lookup x.1 = some .free) :
    ∃ cl : List (Str × Addr), closureFor scope X.env = pure cl ∧ (∀ (x : Str) (c : Addr), cl.lookup x = some c → X.env.cells.lookup x = some c) ∧ (∀ x ∈ scope.names, x.2 = .free → ∃ c, cl.lookup x.1 = some c) := by
  obtain ⟨cl, e, h1, h2, _⟩ := closure_ok ok (scope := scope) scope.names [] (fun x hx hk => ok.has x.1 (hf x hx hk)) (fun _ _ h => nomatch h)
  refine ⟨cl, ?_, fun x c h => h1 x c (lookup_mem h), fun x hx hk => ?_⟩
  · unfold closureFor
    exact (bind_pure _).trans e
  · obtain ⟨c, hc⟩ := h2 x hx hk
    have : ∀ l : List (Str × Addr), (x.1, c) ∈ l → ∃ d, l.lookup x.1 = some d := by
      intro l
      induction l with
      | nil => intro h; cases h
      | cons p r ih =>
        intro h
        obtain ⟨y, d⟩ := p
        rw [List.lookup_cons]
        cases hb : x.1 == y with
        | true => exact ⟨d, rfl⟩
        | false =>
          rcases List.mem_cons.mp h with e | h
          · cases e; simp at hb
          · exact ih h
    exact this cl hc
end L2

end

section
set_option Elab.async false
set_option linter.all false
set_option maxRecDepth 100000
set_option maxHeartbeats 4000000
namespace L2
open PySem PySem.Spec PyProof.Rows

theorem lookup_relabel {scope : Scope} {env : Env} (x : Str) : (relabel scope env).names.lookup x = (scope.names.lookup x).map fun k => if (k == .free && env.scope.kind == .function && env.kindOf x == some .cell) then .cell else k := by
  unfold relabel
  show List.lookup x (scope.names.map _) = _
  induction scope.names with
  | nil => rfl
  | cons p r ih =>
    obtain ⟨n, k⟩ := p
    rw [List.map_cons]
    cases hb : x == n with
    | true =>
      have e := eq_of_beq hb
      subst e
      show List.lookup x ((if (k == NameKind.free && env.scope.kind == .function && env.kindOf x == some .cell) = true then (x, NameKind.cell) else (x, k)) :: _) = _
      by_cases hc : (k == NameKind.free && env.scope.kind == .function && env.kindOf x == some .cell) = true
      · rw [if_pos hc, List.lookup_cons, List.lookup_cons]
        simp only [beq_self_eq_true, Option.map_some]
        rw [if_pos hc]
      · rw [if_neg hc, List.lookup_cons, List.lookup_cons]
        simp only [beq_self_eq_true, Option.map_some]
        rw [if_neg hc]
    | false =>
      show List.lookup x ((if (k == NameKind.free && env.scope.kind == .function && env.kindOf n == some .cell) = true then (n, NameKind.cell) else (n, k)) :: _) = _
      by_cases hc : (k == NameKind.free && env.scope.kind == .function && env.kindOf n == some .cell) = true
      · rw [if_pos hc, List.lookup_cons, List.lookup_cons, hb]; exact ih
      · rw [if_neg hc, List.lookup_cons, List.lookup_cons, hb]; exact ih

theorem HOk.track {P : Program} {w : World} {H : Hp} {h : Heap} {a : Addr} {o : HO} (x : HOk P w H h) (hn : H a = none) (new : ObjOk P w (upd H a o) h a o) : HOk P w (upd H a o) h := fun b u e => by
  by_cases hb : b = a
  · subst hb; rw [upd_same] at e; cases e; exact new
  · rw [upd_ne hb] at e
    exact (x b u e).stay (fun c v _ q => q) (fun c q => by rw [upd_ne (ne_of_none q hn)]; exact q) fun c xs q => by rw [upd_ne (ne_of_none q hn)]; exact q
theorem Un.track {fs ex : List Addr} {H H' : Hp} {h h' : Heap} {a : Addr} {o : HO} (u : Un fs ex H H' h h') (hp : h.objs.size ≤ a) (hl : ∀ b v, H b = some v → b < h.objs.size) : Un fs ex H (upd H' a o) h h' where
  keep := u.keep
  slot := u.slot
  free := fun b v q n x => by rw [upd_ne (Nat.ne_of_lt (Nat.lt_of_lt_of_le (Heap.lt_size q) hp))]; exact u.free b v q n x
  there := u.there
  tups := fun b xs q => by rw [upd_ne (Nat.ne_of_lt (Nat.lt_of_lt_of_le (hl b _ q) hp))]; exact u.tups b xs q
  frzs := fun b v xs q => by rw [upd_ne (Nat.ne_of_lt (Nat.lt_of_lt_of_le (hl b _ q) hp))]; exact u.frzs b v xs q
  tbls := fun b ps q => by rw [upd_ne (Nat.ne_of_lt (Nat.lt_of_lt_of_le (hl b _ q) hp))]; exact u.tbls b ps q

theorem cxC_ok {X : Cx} {pins : List (Addr × Obj)} {σ : St} {H2 : Hp} {s2 : Shared} {Nc : List Str} {src : List (Option Nat)} {scope : Scope} {cl : List (Str × Addr)} {C : Addr} {fp : List Addr} (I2 : Inv X pins σ H2 s2) (S : CompOk X.N X.env.scope Nc src scope)
    (hcl1 : ∀ (x : Str) (c : Addr), cl.lookup x = some c → X.env.cells.lookup x = some c) (hcl2 : ∀ x ∈ scope.names, x.2 = .free → ∃ c, cl.lookup x.1 = some c) (hC : s2.heap.objs.size ≤ C)
    (hfp : ∀ b ∈ fp, b < s2.heap.objs.size) (f2 : ∀ b ∈ fp, FpOk X pins H2 b) : (cxC X Nc scope cl C fp s2 H2).Ok where
  mod := I2.ok.mod
  kind := S.kind
  glob := I2.ok.glob
  blt := I2.ok.blt
  above := hC
  inj := fun x y c h1 h2 => I2.ok.inj x y c (hcl1 _ _ h1) (hcl1 _ _ h2)
  has := fun x h => by
    have h' : (relabel scope X.env).names.lookup x = some .cell ∨ (relabel scope X.env).names.lookup x = some .free := h
    rw [lookup_relabel] at h'
    cases hk : scope.names.lookup x with
    | none => rw [hk] at h'; rcases h' with h' | h' <;> cases h'
    | some k =>
      have hm := lookup_mem hk
      have hkf : k = .free := by
        rw [hk] at h'
        simp only [Option.map_some] at h'
        cases k with
        | free => rfl
        | cell => exact absurd rfl (S.nocell _ hm)
        | _ => exfalso; revert h'; simp
      subst hkf
      exact hcl2 _ hm rfl
  cab := fun x c h => nomatch h
  hd := I2.ok.hd
  frames := I2.ok.frames
  stk := .inl rfl
  exf := fun b hb => ⟨Nat.ne_of_lt (Nat.lt_of_lt_of_le (hfp b hb) hC), fun x c e => (f2 b hb).2.2.2.2.1 x c (hcl1 _ _ e)⟩
  bs := I2.bs
  bsz := Nat.le_trans I2.ok.bsz I2.sz
  noex := fun b o e hb => by
    rcases (f2 b hb).2.2.2.1 with z | z
    · exact I2.ok.noex b o e z
    · exact absurd (Nat.lt_of_lt_of_le (Heap.lt_size e) (Nat.le_trans I2.ok.bsz z)) (Nat.lt_irrefl _)
  exfs := fun b hb hs => by
    obtain ⟨_, f1, f3, _⟩ := f2 b hb
    rcases List.mem_cons.mp (I2.stkSub b hs) with z | z
    · exact f1 z
    · exact f3 z
  funs := I2.stack
  frf := I2.stkFree

/-- the reading of a comprehension's loop -/
def CompW (J : It) (g : TG) (tf : TT) (te : TE) (Q : List V → Hp → Prop) (σ0 : St) (H1 : Hp) : Prop :=
  ∃ W : Nat → Nat → List V → St → Hp → Prop, (∃ m, W 0 m [] σ0 H1) ∧ ∀ i m ys σc Hc, W i m ys σc Hc →
    (J.stop i Hc ∧ ys.length ≤ sizeLine ∧ Q ys Hc) ∨
    (J.go i Hc ∧ ys.length < sizeLine ∧ ∃ N : List V → St → Hp → Prop, (∀ ys' σ' H', N ys' σ' H' → ∃ m', m' < m ∧ W (i + 1) m' ys' σ' H') ∧
      ∀ x H', J.yld i Hc x H' → g x σc H' fun σ2 H2 => tf σ2 H2 fun b H3 => if b = true then te σ2 H3 fun y H4 => N (ys ++ [y]) σ2 H4 else N ys σ2 H3)
def tComp (src : List (Option Nat)) (wi : TI) (g : TG) (tf : TT) (te : TE) : TE := fun σ H Q => wi σ H fun J H1 =>
  CompW J g tf te (fun ys H2 => ∀ D, H2 D = none → Q (.ref D) (upd H2 D (.lst ys))) (cstart src σ) H1

theorem comp_core {X : Cx} {pins : List (Addr × Obj)} {σ : St} {H2 : Hp} {s2 : Shared} {Nc : List Str} {src : List (Option Nat)} {scope : Scope} {cl : List (Str × Addr)} {fp : List Addr} {elt tg iter : Expr} {ifs : List Expr} {pos : Pos}
    {it : Addr} {tn : Nat → Heap → Prop} {J : It} {g : TG} {tf : TT} {te : TE} {Qf : List V → Hp → Prop} {E : Value → Shared → Prop} {RR : Value → Addr → Result → Shared → Prop}
    (hc : X.calm = true) (I2 : Inv X pins σ H2 s2) (S : CompOk X.N X.env.scope Nc src scope)
    (hcl1 : ∀ (x : Str) (c : Addr), cl.lookup x = some c → X.env.cells.lookup x = some c) (hcl2 : ∀ x ∈ scope.names, x.2 = .free → ∃ c, cl.lookup x.1 = some c)
    (T : Turn X.prog X.w X.K tg J fp it tn) (st2 : tn 0 s2.heap) (f2 : ∀ b ∈ fp, FpOk X pins H2 b)
    (hg : ∀ cl C fp s2 H2, PG (cxC X Nc scope cl C fp s2 H2) tg g) (hf : ∀ cl C fp s2 H2, PF (cxC X Nc scope cl C fp s2 H2) ifs tf) (he : ∀ cl C fp s2 H2, PE (cxC X Nc scope cl C fp s2 H2) elt te)
    (hw : CompW J g tf te Qf (cstart src σ) H2)
    (fin : ∀ (H4 : Hp) (s4 : Shared) (ys : List V) (m : Str → Option Value) (C : Addr), s2.heap.objs.size ≤ C → H4 s2.heap.objs.size = none → Inv X pins σ (upd H4 s2.heap.objs.size (.lst ys)) s4 → s4.heap.Ns C m → upd H4 s2.heap.objs.size (.lst ys) C = none → Qf ys H4 → RR (.ref s2.heap.objs.size) C (.ok .next) s4) :
    wpAny (model X.prog X.w) X.A (newList []) (fun acc s3 => wpAny (model X.prog X.w) X.A (newFunctionEnv scope X.env.globals cl [] X.env.qual none .none (some X.env)) (fun cenv s4 =>
      codeAny (model X.prog X.w) X.A (.compStart (.ListComp elt [⟨tg, iter, ifs, 0⟩] scope pos) 0 (.ref it) acc { cenv with scope := relabel scope X.env }) (RR acc cenv.locals) s4) E s3) E s2 := by
  refine wpAny_newObj_type (wpAny_newFunctionEnv S.nocell (by intro y hy; simp at hy) (fun h1 hns1 hsb1 => ?_) S.kind)
  dsimp only at hns1 hsb1 ⊢
  generalize hH2 : s2.heap.push { cls := .type "list", dict := none, data := .seq ([] : List Value).toArray } = G2 at hns1 hsb1 ⊢
  have hCz : G2.objs.size = s2.heap.objs.size + 1 := by rw [← hH2, Heap.size_push]
  generalize hCe : G2.objs.size = C at hns1 hsb1 hCz ⊢
  generalize hDe : s2.heap.objs.size = D at fin hCz ⊢
  have hDC : D ≠ C := by omega
  have hCle : s2.heap.objs.size ≤ C := by omega
  have hDle : s2.heap.objs.size ≤ D := by omega
  have old : ∀ b o, s2.heap.get? b = some o → h1.get? b = some o := fun b o e => hsb1.extBut b o (Nat.ne_of_lt (Nat.lt_of_lt_of_le (Heap.lt_size e) hCle)) (Heap.get?_push_of_some _ (hH2 ▸ Heap.get?_push_of_some _ e))
  have hacc : h1.get? D = some { cls := .type "list", data := .seq ([] : List Value).toArray 0 } := by
    refine hsb1.extBut _ _ hDC (Heap.get?_push_of_some _ ?_)
    rw [← hH2, ← hDe]
    exact Heap.get?_push_size _ rfl
  have hfp : ∀ b ∈ fp, b < s2.heap.objs.size := fun b hb => by
    obtain ⟨o, e, _⟩ := T.obj 0 _ st2 b hb
    exact Heap.lt_size e
  have ok := cxC_ok (Nc := Nc) (src := src) (scope := scope) (cl := cl) (C := C) (fp := fp) I2 S hcl1 hcl2 hCle hfp f2
  generalize hXC : cxC X Nc scope cl C fp s2 H2 = Y at ok
  have hYN : Y.N = Nc := by rw [← hXC]; rfl
  -- the inner start
  have I0 : Inv (cxC X Nc scope cl C fp s2 H2) [] (cstart src σ) H2 { s2 with heap := h1, toks := s2.toks + ([] : List (Str × Value)).length } := by
    rw [← hXC] at ok
    refine ⟨ok, rfl, I2.bare, Un.kept old, ⟨_, hns1, fun j x v e1 e2 _ => ?_⟩, fun x c e => ?_, I2.hok.fresh hCle, fun x c e => I2.freeC x c (hcl1 _ _ e), (fun p hp => nomatch hp), I2.hok.kept old, ?_⟩
    · -- a name of the closure
      have e2' : (cstart src σ)[j]? = some (some v) := e2
      have e1' : Nc[j]? = some x := e1
      unfold cstart at e2'
      rw [List.getElem?_map] at e2'
      cases hs : src[j]? with
      | none => rw [hs] at e2'; cases e2'
      | some o =>
        rw [hs] at e2'
        cases o with
        | none => cases e2'
        | some i =>
          simp only [Option.map_some, Option.some.injEq] at e2'
          obtain ⟨y, hy1, hy2, hy3⟩ := S.src j i hs
          rw [e1'] at hy1; cases hy1
          have hσ : σ[i]? = some (some v) := by
            cases hq : σ[i]? with
            | none => rw [hq] at e2'; cases e2'
            | some z => rw [hq] at e2'; simp only [Option.getD_some] at e2'; rw [e2']
          have hm := lookup_mem hy3
          have hfr := S.free _ hm rfl
          obtain ⟨m0, hn0, hl0⟩ := I2.loc
          obtain ⟨u, r, l⟩ := hl0 i x v hy2 hσ (Or.inr hfr)
          refine ⟨u, r, .inr ⟨?_, ?_⟩⟩
          · show (relabel scope X.env).names.lookup x = some .cell ∨ (relabel scope X.env).names.lookup x = some .free
            rw [lookup_relabel, hy3]
            simp only [Option.map_some]
            split
            · exact .inl rfl
            · exact .inr rfl
          · rcases l with ⟨k, _⟩ | ⟨_, c, hc1, hc2⟩
            · have k' : X.env.scope.names.lookup x = some .local := k
              rw [k'] at hfr; rcases hfr with z | z <;> cases z
            · obtain ⟨c', hc'⟩ := hcl2 _ hm rfl
              have := hcl1 _ _ hc'
              rw [hc1] at this; cases this
              exact ⟨c, hc', hc2.keeps old⟩
    · obtain ⟨v, z⟩ := I2.cell x c (hcl1 _ _ e)
      exact ⟨v, z.keeps old⟩
    · show (cstart src σ).length = Nc.length
      unfold cstart; rw [List.length_map]; exact S.len
  obtain ⟨W, ⟨m0, w0⟩, turn⟩ := hw
  have loop : codeAny (model X.prog X.w) X.A (.compLoop (.ListComp elt [⟨tg, iter, ifs, 0⟩] scope pos) 0 (.ref it) (.ref D) (compEnvC scope cl C X.env)) (RR (.ref D) C) { s2 with heap := h1, toks := s2.toks + ([] : List (Str × Value)).length } := by
    have fpk : ∀ {H' : Hp} {ob : Obj}, (∀ b ∈ fp, H' b = none) → ∀ b ∈ fp, FpOk (cxC X Nc scope cl C fp s2 H2) [(D, ob)] H' b := fun {H' ob} hn b hb =>
      ⟨hn b hb, (I0.ok.exf b hb).1, I0.ok.exfs b hb, .inl hb, (I0.ok.exf b hb).2, fun p hp => by
        have e : p = (D, ob) := List.mem_singleton.mp hp
        subst e
        exact Nat.ne_of_gt (Nat.lt_of_lt_of_le (hfp b hb) hDle)⟩
    have hDfs : D ∉ frs X.stack := fun hs => by
      rcases List.mem_cons.mp (I2.stkSub D hs) with z | z
      · exact absurd (Nat.lt_of_lt_of_le I2.lt hDle) (by rw [z]; exact Nat.lt_irrefl _)
      · exact I2.nofs hDle z
    refine loop_go (fun n s' => ∃ i ys σ' H' its k, Inv (cxC X Nc scope cl C fp s2 H2) [] σ' H' s' ∧ tn i s'.heap ∧ (∀ b ∈ fp, H' b = none) ∧ H' D = none ∧ s'.heap.get? D = some { cls := .type "list", data := .seq (its : List Value).toArray k } ∧ Vals ys its ∧ W i n ys σ' H') ?_ m0
      ⟨0, [], cstart src σ, H2, [], 0, I0, T.keep _ _ _ st2 fun b hb o e => old b o e, fun b hb => (f2 b hb).1, I2.hok.fresh hDle, hacc, .nil, w0⟩
    rintro n s3 ⟨i, ys, σ3, H3, its, k, I3, st3, fr3, hD3, hO3, vs3, w3⟩
    have I3' : Inv (cxC X Nc scope cl C fp s2 H2) [(D, ({ cls := .type "list", data := .seq its.toArray k } : Obj))] σ3 H3 s3 := I3.pins_of fun p hp => by
      have e := List.mem_singleton.mp hp
      subst e
      exact ⟨hO3, hD3, hDC, hDfs, fun v z => by
        have z' : Data.seq _ _ = Data.cell v := z
        cases z'⟩
    rcases turn i n ys σ3 H3 w3 with ⟨stop, hlen, qn⟩ | ⟨go, hlen, N, hN, step⟩
    · refine thn (T.done (cxC X Nc scope cl C fp s2 H2) rfl rfl rfl hc i _ s3 σ3 H3 _ I3' (fpk fr3) st3 stop) fun r s4 ⟨hr, I4⟩ => ?_
      subst hr
      have hO4 := (I4.pin (D, _) (List.mem_append_right _ (List.mem_singleton.mpr rfl))).1
      obtain ⟨m4, hn4, _⟩ := I4.loc
      have fC : H3 C = none := I4.free
      have uD : upd H3 D (.lst ys) C = none := by rw [upd_ne hDC.symm]; exact fC
      have hl2 : ∀ b v, H2 b = some v → b < s2.heap.objs.size := fun b v e => I2.hok.lt e
      have Iout : Inv X pins σ (upd H3 D (.lst ys)) s4 := by
        refine I2.call' (ch := fp) I4.os (Un.track I4.base hDle hl2) (HOk.track I4.hok hD3 ⟨hlen, its, k, vs3, hO4⟩) I4.bare fun b hb => ?_
        obtain ⟨_, a1, _, a3, a4, a5⟩ := f2 b hb
        exact ⟨a3, a1, a4, a5⟩
      exact fin H3 s4 ys m4 C (by omega) hD3 Iout hn4 uD qn
    · refine thn (T.item (cxC X Nc scope cl C fp s2 H2) rfl rfl rfl hc i _ s3 σ3 H3 _ I3' (fpk fr3) st3 go) fun r s4 ⟨u, hr, h4⟩ => ?_
      subst hr
      refine thn h4 fun _ s5 ⟨x, H5, I5, r5, y5, st5, fr5⟩ => ?_
      have I5' := I5.pinned (fpk fr5) (T.obj _ _ st5)
      refine thn (hg cl C fp s2 H2 _ s5 σ3 H5 x u _ I5' r5 (step x H5 y5)) fun _ s6 ⟨σ6, H6, I6, q6⟩ => ?_
      refine thn (hf cl C fp s2 H2 _ s6 σ6 H6 _ I6 q6) fun ok s7 ⟨H7, I7, q7⟩ => ?_
      have back : ∀ {s8 : Shared} {σ8 : St} {H8 : Hp}, Inv (cxC X Nc scope cl C fp s2 H2) ([(D, ({ cls := .type "list", data := .seq its.toArray k } : Obj))] ++ pinsAt fp s5.heap) σ8 H8 s8 →
          tn (i + 1) s8.heap ∧ (∀ b ∈ fp, H8 b = none) ∧ H8 D = none ∧ s8.heap.get? D = some { cls := .type "list", data := .seq its.toArray k } := fun {s8 σ8 H8} I8 => by
        refine ⟨T.keep _ _ _ st5 fun b hb o e => (I8.pin (b, o) (List.mem_append_right _ (List.mem_append_right _ (mem_pinsAt hb e)))).1, fun b hb => ?_, ?_, ?_⟩
        · obtain ⟨o, e, d⟩ := T.obj _ _ st5 b hb
          exact (I8.pin (b, o) (List.mem_append_right _ (List.mem_append_right _ (mem_pinsAt hb e)))).2.1
        · exact (I8.pin (D, _) (List.mem_append_right _ (List.mem_append_left _ (List.mem_singleton.mpr rfl)))).2.1
        · exact (I8.pin (D, _) (List.mem_append_right _ (List.mem_append_left _ (List.mem_singleton.mpr rfl)))).1
      cases ok with
      | false =>
        obtain ⟨m', hm', w7⟩ := hN _ _ _ q7
        obtain ⟨b1, b2, b3, b4⟩ := back I7
        exact ⟨m', hm', i + 1, ys, σ6, H7, its, k, I7.pins_of (fun p hp => nomatch hp), b1, b2, b3, b4, vs3, w7⟩
      | true =>
        refine thn (he cl C fp s2 H2 _ s7 σ6 H7 _ I7 q7) fun v s8 ⟨y, H8, I8, r8, q8⟩ => ?_
        obtain ⟨m', hm', w8⟩ := hN _ _ _ q8
        obtain ⟨b1, b2, b3, b4⟩ := back I8
        have hl8 := vs3.length
        refine call_meets F.slot_list_append ⟨_, b4, rfl⟩ F.entry_list_append (F.args_list_append_2 _ _) (PySem.list_append D its.toArray k v (by rw [List.size_toArray]; omega)) ⟨b4, ?_⟩
        have I8n : Inv (cxC X Nc scope cl C fp s2 H2) [] σ6 H8 s8 := I8.pins_of fun p hp => nomatch hp
        have kq : ∀ b o, b ≠ D → s8.heap.get? b = some o → (s8.heap.update D (Obj.mapSeq (·.push v))).get? b = some o := fun b o hb e => (Heap.get?_update_other s8.heap _ (Ne.symm hb)).trans e
        have qn := PySem.IsL.update b4 (·.push v)
        have e2 : its.toArray.push v = (its ++ [v]).toArray := by simp
        rw [e2] at qn
        have I9 : Inv (cxC X Nc scope cl C fp s2 H2) [] σ6 H8 { s8 with heap := s8.heap.update D (Obj.mapSeq (·.push v)), toks := s8.toks } :=
          I8n.turned (it := D) kq b3 hDC (.inr hDle) (fun x c e z => by
            obtain ⟨w', z'⟩ := I2.cell x c (hcl1 _ _ e)
            exact absurd (Nat.lt_of_lt_of_le z'.lt hDle) (by rw [z]; exact Nat.lt_irrefl _)) (fun p hp => nomatch hp)
        refine ⟨m', hm', i + 1, ys ++ [y], σ6, H8, its ++ [v], _, I9, T.keep _ _ _ b1 fun b hb o e => kq b o (Nat.ne_of_lt (Nat.lt_of_lt_of_le (hfp b hb) hDle)) e, b2, b3, qn, vs3.append (.cons r8 .nil), w8⟩
  exact codeAny_compStart_list loop (T.self X.A 0 _ _ _ (T.keep _ _ _ st2 fun b hb o e => old b o e) loop)

section
variable {X : Cx} {Nc : List Str} {src : List (Option Nat)} {scope : Scope} {elt tg iter : Expr} {ifs : List Expr} {pos : Pos} {wi : TI} {g : TG} {tf : TT} {te : TE}
/-- [elt for tg in iter if ifs] -/
theorem pe_comp (src : List (Option Nat)) (hc : X.calm = true) (S : CompOk X.N X.env.scope Nc src scope) (hi : PI X tg iter wi)
    (hg : ∀ cl C fp s2 H2, PG (cxC X Nc scope cl C fp s2 H2) tg g) (hf : ∀ cl C fp s2 H2, PF (cxC X Nc scope cl C fp s2 H2) ifs tf) (he : ∀ cl C fp s2 H2, PE (cxC X Nc scope cl C fp s2 H2) elt te)
    (hs : ∀ x, foldedSetIterable iter X.env x = pure x := by intro _; rfl) : PE X (.ListComp elt [⟨tg, iter, ifs, 0⟩] scope pos) (tComp src wi g tf te) := by
  intro pins s σ H Q I h
  obtain ⟨cl, hclos, hcl1, hcl2⟩ := closureFor_ok I.ok (scope := scope) S.free
  rw [eval_ListComp]
  refine wpAny_comprehension_free (use := none) rfl hs hclos S.kind (fun x hx hl => by obtain ⟨n, k⟩ := x; cases hl; exact lookup_of_mem S.nodup hx) (thn (hi pins s σ H _ I h) fun xv s1 h1 => thn h1 fun itv s2 h2 => ?_)
  obtain ⟨it, fp, tn, J, H2, e, I2, T, st2, f2, hw⟩ := h2
  subst e
  refine comp_core (RR := fun acc C => compPost (model X.prog X.w) X.A X.xe none (EP X pins σ Q) acc C) hc I2 S hcl1 hcl2 T st2 f2 hg hf he hw ?_
  intro H4 s4 ys m C hC hD Iout hn hCn q
  refine ⟨m, hn, fun h' sb => ⟨.ref s2.heap.objs.size, _, ?_, rfl, q _ hD⟩⟩
  obtain ⟨f0, f1, f3, f4, f5, f6⟩ := I2.fpOk (H' := upd H4 s2.heap.objs.size (.lst ys)) hC hCn
  exact Iout.turned (t' := s4.toks) (it := C) (fun b o hb e => (sb.2 b hb).trans e) f0 f1 f4 f5 f6
end
end L2

end

section
set_option Elab.async false
set_option linter.all false
set_option maxRecDepth 100000
set_option maxHeartbeats 4000000
namespace L2
open PySem PySem.Spec PyProof.Rows

section
variable {X : Cx} {pins : List (Addr × Obj)} {σ : St} {H : Hp} {s : Shared}
/-- several untracked records of ours have turned -/
theorem Inv.turnedL {h' : Heap} {t' : Nat} {ch : List Addr} (I : Inv X pins σ H s) (k : ∀ b o, b ∉ ch → s.heap.get? b = some o → h'.get? b = some o) (hf : ∀ b ∈ ch, FpOk X pins H b) : Inv X pins σ H { s with heap := h', toks := t' } := by
  have nit : ∀ b u, H b = some u → b ∉ ch := fun b u e z => by rw [(hf b z).1] at e; cases e
  refine I.step (g' := s.gens) (d' := s.drawn) (ch := ch) (fun b hb => ?_) (fun b o _ _ hc e _ => k b o hc e) (fun b o _ _ hc e _ => ⟨o.slots, k b o hc e⟩) (fun _ _ _ _ n => n)
    (fun b o hc e => ⟨o, k b o hc e⟩) (fun _ _ e => e) (fun _ _ _ e => e) (fun b ps e => ⟨#[], by rw [e]; simp⟩) (fun m hm => ?_) (fun b u e => ?_) I.bare
  · obtain ⟨_, a1, _, a3, a4, a5⟩ := hf b hb
    exact ⟨a3, a1, a4, a5⟩
  · obtain ⟨o, es, ep, ho, r⟩ := hm
    exact ⟨o, es, ep, k _ o (fun z => (hf _ z).2.1 rfl) ho, r⟩
  · refine (I.hok b u e).stay (fun c v hc q => k c v ?_ q) (fun _ q => q) fun _ _ q => q
    rcases hc with z | z
    · rw [z]; exact nit b u e
    · exact nit c _ z
theorem Un.track' {fs ex : List Addr} {H H' : Hp} {h h' : Heap} {a : Addr} {o : HO} (u : Un fs ex H H' h h') (hp : h.objs.size ≤ a) (hn : H' a = none) : Un fs ex H (upd H' a o) h h' where
  keep := u.keep
  slot := u.slot
  free := fun b v q n x => by rw [upd_ne (Nat.ne_of_lt (Nat.lt_of_lt_of_le (Heap.lt_size q) hp))]; exact u.free b v q n x
  there := u.there
  tups := fun b xs q => by rw [upd_ne (ne_of_none (u.tups b xs q) hn)]; exact u.tups b xs q
  frzs := fun b v xs q => by rw [upd_ne (ne_of_none (u.frzs b v xs q) hn)]; exact u.frzs b v xs q
  tbls := fun b ps q => by
    obtain ⟨m, e⟩ := u.tbls b ps q
    exact ⟨m, by rw [upd_ne (ne_of_none e hn)]; exact e⟩
/-- an untracked object of ours is tracked from here on -/
theorem Inv.track {a : Addr} {o : HO} (I : Inv X pins σ H s) (f : FpOk X pins H a) (hs : X.s₀.heap.objs.size ≤ a) (new : ObjOk X.prog X.w (upd H a o) s.heap a o) : Inv X pins σ (upd H a o) s := by
  obtain ⟨hn, h1, _, _, h4, h5⟩ := f
  refine ⟨I.ok, I.os, I.bare, Un.track' I.base hs hn, I.loc, I.cell, by rw [upd_ne (Ne.symm h1)]; exact I.free, fun x c e => by rw [upd_ne (h4 x c e)]; exact I.freeC x c e, fun p hp => ?_, HOk.track I.hok hn new, I.len⟩
  obtain ⟨a1, a2, a3⟩ := I.pin p hp
  exact ⟨a1, by rw [upd_ne (h5 p hp)]; exact a2, a3⟩
end

/-! ### enumerate of a list -/
def Ite (K : PySem.W.Frag) (a : Addr) : It :=
  ⟨fun i H => ∃ xs x, SqL K H a xs ∧ xs[i]? = some x,
   fun i H v H' => ∃ T x, H T = none ∧ v = .ref T ∧ H' = upd H T (.tup [.int i, x]) ∧ ∀ xs, SqL K H a xs → xs[i]? = some x,
   fun i H => ∃ xs, SqL K H a xs ∧ xs.length ≤ i⟩
theorem tup2_ok {P : Program} {w : World} {H : Hp} {h : Heap} {T : Addr} {x y : V} {u v : Value} (r : RelV x u) (q : RelV y v) (e : h.get? T = some { cls := .type "tuple", data := .seq #[u, v] }) : ObjOk P w H h T (.tup [x, y]) :=
  ⟨by show 2 ≤ sizeLine; decide, [u, v], .cons r (.cons q .nil), ⟨_, e, rfl, _, rfl⟩⟩
theorem turn_enum {P : Program} {w : World} {K : PySem.W.Frag} {elts : List Expr} {kt : Nat} {tp : Pos} (a e it : Addr) (hne : e ≠ it) :
    Turn P w K (.Tuple elts kt tp) (Ite K a) [e, it] e (fun i h => (∃ old, IsEnum h e it i old) ∧ h.IsListIter it a i) where
  mem := by simp
  obj := fun i h st b hb => by
    obtain ⟨⟨old, he⟩, hi⟩ := st
    rcases List.mem_cons.mp hb with z | z
    · subst z
      exact ⟨_, he, fun v z => by
        have z' : Data.fields _ = Data.cell v := z
        cases z'⟩
    · have z := List.mem_singleton.mp z
      subst z
      obtain ⟨o, e1, c, d⟩ := hi
      exact ⟨o, e1, fun v z => by rw [d] at z; cases z⟩
  keep := fun i h h' st k => by
    obtain ⟨⟨old, he⟩, hi⟩ := st
    exact ⟨⟨old, k e (by simp) _ he⟩, hi.at fun o e1 => k it (by simp) o e1⟩
  item := by
    intro X hP hw hK hc i pins s σ H E I hf st hg
    subst hP hw hK
    obtain ⟨xs, x, hq, hx⟩ := hg
    obtain ⟨its, rv, p, hz⟩ := I.list hq
    obtain ⟨u, hu, ru⟩ := rv.get hx
    obtain ⟨⟨old, he⟩, hi⟩ := st
    refine wpAny_pyNext_enum_item he hi p.isList (x := u) (by simpa using hu) hne fun h' ho hi' ht hsz kk => ⟨_, rfl, ?_⟩
    refine wpAny_letOwnedTupleGo_enum ho fun h2 he2 sb => ?_
    have fT : FpOk X pins H s.heap.objs.size := I.fpOk (Nat.le_refl _) (I.hok.fresh (Nat.le_refl _))
    have k2 : ∀ b o, b ∉ [e, it] → s.heap.get? b = some o → h2.get? b = some o := fun b o hb e1 => by
      simp only [List.mem_cons, List.mem_nil_iff, or_false, not_or] at hb
      exact (sb.2 b hb.1).trans (kk b o hb.1 hb.2 e1)
    have I1 : Inv X pins σ H { s with heap := h2, toks := s.toks + 1 } := I.turnedL (ch := [e, it]) k2 hf
    have eT : h2.get? s.heap.objs.size = some { cls := .type "tuple", data := .seq #[.int i s.toks, u] } := (sb.2 _ (Nat.ne_of_gt (Heap.lt_size he))).trans ht
    have I2 := I1.track (o := .tup [.int i, x]) fT (Nat.le_trans I.sz (Nat.le_refl _)) (tup2_ok ⟨_, rfl⟩ ru eT)
    refine ⟨.ref s.heap.objs.size, _, I2, rfl, ⟨_, x, fT.1, rfl, rfl, fun ys hy => by rw [I.list_inj hy hq]; exact hx⟩, ⟨⟨u, by exact_mod_cast he2⟩, hi'.extBut sb.extBut (Ne.symm hne)⟩, fun b hb => ?_⟩
    obtain ⟨o, eb⟩ : ∃ o, s.heap.get? b = some o := by
      rcases List.mem_cons.mp hb with z | z
      · subst z; exact ⟨_, he⟩
      · have z := List.mem_singleton.mp z
        subst z
        obtain ⟨o, e1, _⟩ := hi
        exact ⟨o, e1⟩
    rw [upd_ne (Nat.ne_of_lt (Heap.lt_size eb))]
    exact (hf b hb).1
  done := by
    intro X hP hw hK hc i pins s σ H E I hf st hg
    subst hP hw hK
    obtain ⟨xs, hq, hx⟩ := hg
    obtain ⟨its, rv, p, hz⟩ := I.list hq
    obtain ⟨⟨old, he⟩, hi⟩ := st
    have hl := rv.length
    refine wpAny_pyNext_enum_end (I.ok.hd hc) he hi p.isList (by simp; omega) fun h' eb => ⟨rfl, I.turnedL (t' := s.toks) (ch := [e, it]) (fun b o hb e1 => eb b o (fun z => hb (by simp [z])) e1) hf⟩
  self := fun _ _ _ _ _ st h => by
    obtain ⟨⟨old, he⟩, hi⟩ := st
    exact wpAny_pyIter_enum he h
def iEnum (K : PySem.W.Frag) (ta : TA) : TI := fun σ H R => ta σ H fun vs H1 => ∃ a, vs = [.ref a] ∧ (∃ xs, SqL K H1 a xs) ∧ R (Ite K a) H1
theorem pi_enum {X : Cx} {a : Expr} {ta : TA} {p pos : Pos} {elts : List Expr} {kt : Nat} {tp : Pos} (hg : Gl X "enumerate") (hm : X.mg "enumerate" = none) (ha : PA X [a] ta) (hs : starEach [a] X.env = [(false, eval a X.env)] := by rfl) :
    PI X (.Tuple elts kt tp) (.Call (.Name "enumerate" p) [a] [] pos) (iEnum X.K ta) := by
  intro pins s σ H R I h
  refine Call_ (ld_blt I hg hm boot_enumerate (PyProof.Rows.callWith_type1 (thn (ha pos pins s σ H _ I h) fun us s1 ⟨vs, H1, I1, r1, q1⟩ => ?_) hs rfl))
  obtain ⟨l, e, ⟨xs, hq⟩, q⟩ := q1
  subst e
  obtain ⟨u, rfl, ru⟩ := vals1 r1
  cases ru
  obtain ⟨its, rv, pl, hz⟩ := I1.list hq
  refine call_enumerate_list pl.isList fun h' he hi hsz kk => ?_
  refine wpAny_pyIter_enum he ?_
  have I2 : Inv X pins σ H1 { s1 with heap := h', toks := s1.toks } := I1.kept kk
  refine ⟨s1.heap.objs.size + 1, [s1.heap.objs.size + 1, s1.heap.objs.size], _, _, H1, rfl, I2, turn_enum l _ _ (Nat.succ_ne_self _), ⟨⟨_, he⟩, hi⟩, fun b hb => ?_, q⟩
  rcases List.mem_cons.mp hb with z | z
  · subst z; exact I1.fpOk (Nat.le_succ _) (I1.hok.fresh (Nat.le_succ _))
  · have z := List.mem_singleton.mp z
    subst z; exact I1.fpOk (Nat.le_refl _) (I1.hok.fresh (Nat.le_refl _))

/-! ### zip of two lists -/
def Itz (K : PySem.W.Frag) (a b : Addr) : It :=
  ⟨fun i H => ∃ xs x ys y, SqL K H a xs ∧ SqL K H b ys ∧ xs[i]? = some x ∧ ys[i]? = some y,
   fun i H v H' => ∃ T x y, H T = none ∧ v = .ref T ∧ H' = upd H T (.tup [x, y]) ∧ (∀ xs, SqL K H a xs → xs[i]? = some x) ∧ ∀ ys, SqL K H b ys → ys[i]? = some y,
   fun i H => ∃ xs ys, SqL K H a xs ∧ SqL K H b ys ∧ (xs.length ≤ i ∨ ys.length ≤ i)⟩
theorem boot_zip : bootBuiltins "zip" = some (.type "zip") := by decide +kernel
def iZip (K : PySem.W.Frag) (ta : TA) : TI := fun σ H R => ta σ H fun vs H1 => ∃ a b, vs = [.ref a, .ref b] ∧ (∃ xs, SqL K H1 a xs) ∧ (∃ ys, SqL K H1 b ys) ∧ R (Itz K a b) H1
end L2

end

section
set_option Elab.async false
set_option linter.all false
set_option maxRecDepth 100000
set_option maxHeartbeats 4000000
namespace L2
open PySem PySem.Spec PyProof.Rows

/-! ### f(k = v, ..) -/
section
variable {X : Cx} {CX : CXT} {k : Nat} {f : Addr} {fd : FuncData} {ps ks : List Str} {sp : Sp} {E : XK} {x : Str} {p pos : Pos} {kws : List Keyword} {tk : TA} {g : List Value → List Value → List Value} {gV : List V → List V → List V}
theorem Fun.kbinds {K : PySem.W.Frag} {x qual : Str} {st : Stmt} {f : Addr} {fd : FuncData} {ps ks : List Str} {g : List Value → List Value → List Value} {gV : List V → List V → List V} (F : Fun K x qual st f fd)
    (h : ∀ (kV doc pm : Value) (an : Option Addr) (cdv ct : Value) (us ws : List Value), (g us ws).length = ps.length → bindArgs (PySem.W.fnOf x qual (defArgs st) (defBody st) (defScope st) .none kV doc pm an cdv ct) ⟨us, ks.zip ws⟩ = pure (ps.zip (g us ws)))
    (rel : ∀ {vs : List V} {us : List Value} {zs : List V} {ws : List Value}, Vals vs us → Vals zs ws → Vals (gV vs zs) (g us ws)) : KBinds K fd ps ks g gV := by
  obtain ⟨oc, od, kV, doc, pm, an, cdv, ct, osl, rfl, lk, hcd⟩ := F.ex
  exact ⟨fun s us ws _ hl => .of_eq (h kV doc pm an cdv ct us ws hl), rel⟩
end

section
variable {X : Cx}
/-! ### sum, all, isinstance -/
def sumI (xs : List V) : Int := (xs.map fun v => match v with | .int i => i | _ => 0).sum
theorem all_range (bs : List Bool) (tr : Nat → Bool) (h : ∀ i b, bs[i]? = some b → tr i = b) : (List.range bs.length).all tr = bs.all id := by
  induction bs generalizing tr with
  | nil => rfl
  | cons b r ih =>
    rw [List.length_cons, List.range_succ_eq_map, List.all_cons, List.all_map, List.all_cons, h 0 b rfl]
    have := ih (tr ∘ Nat.succ) (fun i c hi => h (i + 1) c (by simpa using hi))
    rw [this]; rfl
theorem call_allL (hc : X.calm = true) : CallR X (.builtin "all") (fun xs H Q => ∃ (a : Addr) (bs : List Bool), xs = [.ref a] ∧ SqL X.K H a (bs.map V.bl) ∧ Q (.bl (bs.all id)) H) := by
  intro pins s σ H xs us Q I r h
  obtain ⟨a, bs, rfl, hq, q⟩ := h
  obtain ⟨u, rfl, ru⟩ := vals1 r
  cases ru
  obtain ⟨its, rv, p, hz⟩ := I.list hq
  have hl := rv.length
  rw [List.length_map] at hl
  refine call_all_walk (wpAny_pyIter_list p.isList ?_)
  have hne : a ≠ s.heap.objs.size := by
    obtain ⟨o, ho, _⟩ := p.isList
    exact Nat.ne_of_lt (Heap.lt_size ho)
  refine ⟨s.heap.objs.size, _, _, _, _, _, fun i => (bs[i]?).getD true, rfl, Walks.list (A := X.A.in1) (I.ok.hd hc) s.heap.objs.size a hne its.toArray, ⟨⟨_, Heap.get?_push_size _ rfl, rfl, rfl⟩, p.isList.push _⟩, ?_, fun h' tk kk => ?_⟩
  · intro i v s' Q' E' hv hq'
    have hv' : its[i]? = some v := by simpa using hv
    cases hn : bs[i]? with
    | none =>
      exfalso
      rw [List.getElem?_eq_none_iff, hl] at hn
      rw [List.getElem?_eq_none hn] at hv'
      cases hv'
    | some b =>
      obtain ⟨u', hu', ru'⟩ := rv.get (i := i) (x := V.bl b) (by simp [hn])
      obtain rfl : u' = Value.bool b := ru'
      rw [hu'] at hv'; cases hv'
      have hq2 : Q' ((bs[i]?).getD true) s' := hq'
      rw [hn] at hq2
      exact wpAny_truthy_bool hq2
  · have e : (List.range its.toArray.size).all (fun i => (bs[i]?).getD true) = bs.all id := by
      rw [show its.toArray.size = bs.length by simp; omega]
      exact all_range bs _ fun i b h => by rw [h]; rfl
    rw [e]
    refine ⟨.bl _, H, I.kept (t' := tk) fun b o e1 => kk b o (fun hb => ?_) (Heap.get?_push_of_some _ e1), rfl, q⟩
    have hb := List.mem_singleton.mp hb
    exact absurd (Heap.lt_size e1) (by rw [hb]; exact Nat.lt_irrefl _)
theorem rl_int : RelV (.ty "int") (.type "int") := rfl
theorem rl_bool : RelV (.ty "bool") (.type "bool") := rfl
theorem bt_int : bootBuiltins "int" = some (.type "int") := by decide +kernel
theorem bt_bool : bootBuiltins "bool" = some (.type "bool") := by decide +kernel
theorem bt_isi : bootBuiltins "isinstance" = some (.builtin "isinstance") := by decide +kernel
theorem bt_all : bootBuiltins "all" = some (.builtin "all") := by decide +kernel

/-! ### xs[::-1] -/
def tRev (K : PySem.W.Frag) (te : TE) : TE := fun σ H Q => te σ H fun x H1 => ∃ a xs, x = .ref a ∧ SqL K H1 a xs ∧ ∀ p, H1 p = none → Q (.ref p) (upd H1 p (.lst xs.reverse))
/-! ### list + list, of any list that is read -/
def rCatS (K : PySem.W.Frag) : R2 := fun x y H Q => ∃ a b xs ys, x = .ref a ∧ y = .ref b ∧ SqL K H a xs ∧ SqL K H b ys ∧ xs.length + ys.length ≤ sizeLine ∧ ∀ p, H p = none → Q (.ref p) (upd H p (.lst (xs ++ ys)))
theorem op_catS : OpR X (binaryOp .Add) (rCatS X.K) := by
  intro pins s σ H x y v u Q I rx ry h
  obtain ⟨a, b, xs, ys, rfl, rfl, hq, hq2, hz, q⟩ := h
  cases rx
  cases ry
  obtain ⟨its, rv, p, _⟩ := I.list hq
  obtain ⟨its2, rv2, p2, _⟩ := I.list hq2
  have e1 := rv.length
  have e2 := rv2.length
  obtain ⟨⟨cls, dd, data, sl⟩, ho, hc, n, hd⟩ := id p.isList
  obtain ⟨⟨cls2, dd2, data2, sl2⟩, ho2, hc2, n2, hd2⟩ := id p2.isList
  simp only at hc hd hc2 hd2
  subst hc hd hc2 hd2
  have ea : its.toArray ++ its2.toArray = (its ++ its2).toArray := by simp
  refine concat_meets ⟨_, ho, rfl⟩ ⟨_, ho2, rfl⟩ noFill_list_add seq_list_add PySem.F.slot_list_add PySem.F.entry_list_add (PySem.F.args_list_add_2 _ _) (list_addW a b its.toArray its2.toArray n n2 dd dd2 sl sl2 (by rw [List.size_toArray, List.size_toArray]; omega)) ⟨ho, ho2, ?_⟩
  rw [ea]
  exact ⟨.ref _, _, I.lnew (t' := s.toks) (rv.append rv2) (by rw [List.length_append]; omega), rfl, q _ I.fresh⟩

/-! ### products of any size that is let by -/
theorem op_mulB : OpR X (binaryOp .Mult) (rI IntMulOk fun i j => .int (i * j)) := opI fun _ _ _ _ _ _ _ hc q => mul_int q hc
/-- // by a positive divisor of below 9000 bits -/
theorem op_fdivB : OpR X (binaryOp .FloorDiv) (rI (fun _ j => 0 < j ∧ j.natAbs.log2 < 9000) fun i j => .int (i / j)) := opI fun i j _ _ _ _ _ hc q => by
  have e : i.fdiv j = i / j := Int.fdiv_eq_ediv_of_nonneg _ (Int.le_of_lt hc.1)
  exact floordiv_int (by have := hc.1; omega) (by rw [e]; exact q) (.inl (PyProof.noPylong_of_log2 hc.2))
end

/-! ### the head, with the bound of the script's bits -/
theorem bits_script {ns : List Int} (h : PySem.W.WData.layableAll [PySem.W.WData.list (ns.map PySem.W.WData.int)] = true) : ∀ n ∈ ns, Builtin.Int.intBits n ≤ 2 ^ 20 := by
  intro n hn
  have h1 : (PySem.W.WData.list (ns.map PySem.W.WData.int)).layable = true := by
    have := List.all_eq_true.mp h _ List.mem_cons_self
    exact this
  have hw := (PySem.W.layableW_iff.mp h1).2.2
  have key : ∀ l : List Int, n ∈ l → Builtin.Int.intBits n ≤ PySem.W.WData.weightAll (l.map PySem.W.WData.int) := by
    intro l
    induction l with
    | nil => intro h; cases h
    | cons m r ih =>
      intro hm
      rw [List.map_cons, PySem.W.WData.weightAll]
      rcases List.mem_cons.mp hm with e | hm
      · subst e
        have : Builtin.Int.intBits n ≤ (PySem.W.WData.int n).weight := by
          simp only [PySem.W.WData.weight, Builtin.Int.intBits]
          omega
        omega
      · have := ih hm
        omega
  have h2 := key ns hn
  rw [PySem.W.WData.weight] at hw
  omega
end L2

namespace Att
open PySem PySem.W PyProof.Rows PySem.Calls
theorem attach_callB {l : OpenLaw} {n : Nat} {q : Program} {loose : List Str} {XP : (Str → Option Value) → Heap → Prop} {YP : World → Heap → Prop} {d : DefRec}
    (hn : l.most = some n) (hdf : d.params.defaults = [])
    (call : ∀ (w : World) (s₀ s₁ : Shared) (mg mb : Str → Option Value) (fa : Addr) (o : Obj) (pm cd doc : Value) (a : Addr) (vs : List Value) (ns : List Int),
      Ground q loose [] XP w s₀ mg mb s₁.heap → YP w s₁.heap →
      s₁.heap.get? fa = some o → o.data = .func (docDef d.name d.params d.body d.scope pm cd doc) → s₁.heap.CodeRec cd d.name → mg d.name = some (.ref fa) →
      s₁.heap.get? a = some { cls := .type "list", data := .seq vs.toArray } → IntsAre vs ns → ns.length ≤ n → (∀ m ∈ ns, Builtin.Int.intBits m ≤ 2 ^ 20) → s₁.gens = #[] →
      codeAny (model l.prog w) callerA (.call (.ref fa) ⟨[.ref a], []⟩) (fun r s' => r = .ok (.ret (.bool true)) ∧ OldK s₁.heap s'.heap ∧ s'.os = s₁.os ∧ AllBare s'.gens) s₁) :
    WalkO q loose XP YP l.row.toRowW d [] (fun f vs => PySem.call f vs) := by
  intro w s₀ s₁ mg mb G Y fa o pm cd doc dV kV ho hd hcd hD hmg hg args vals as hpre hlay hrd hwl hlo
  obtain rfl : dV = .none := Dflts.none hD hdf
  obtain rfl : kV = .none := Dflts.noKw hD
  obtain ⟨a, vs, ns, rfl, rfl, hobj, hints, hlen⟩ := script_of hn hpre hwl
  refine enter_call (codeAny_mono (call w s₀ s₁ mg mb fa o pm cd doc a vs ns G Y ho (fd_plain hd) hcd hmg hobj hints hlen (L2.bits_script hlay) hg) fun r s' hq => ?_)
  obtain ⟨rfl, h2, h3, h4⟩ := hq
  exact ⟨.inl ⟨.bool true, .bool true, [], rfl, fun _ => rfl, .bool true, post_true l _, fun _ => ⟨List.Pairwise.nil, fun _ hm => (nomatch hm)⟩⟩, h2, h3, h4⟩
end Att

namespace L2
open PySem PySem.Spec PyProof.Rows
theorem walk_ofB {l : PySem.W.OpenLaw} {n k : Nat} {q : Program} {loose : List Str} {XP : (Str → Option Value) → Heap → Prop} {YP : World → Heap → Prop} {d : DefRec} {K : Params → PySem.W.Frag} {CX : World → CXT} {sp : World → Sp} {x : Str}
    (hn : l.most = some n) (hn2 : n ≤ sizeLine) (hdf : d.params.defaults = []) (hr : Room k callerA)
    (hY : ∀ (w : World) (h : Heap), YP w h → (K w.params).In h)
    (F : ∀ (w : World) (mg : Str → Option Value) (fa : Addr) (h : Heap), (K w.params).In h → h.Ns mainGlobals mg → mg d.name = some (.ref fa) →
      ∃ fd : FuncData, (∀ (s : Shared) (u : Value), BindsTo s fd ⟨[u], []⟩ [(x, u)]) ∧
        ∀ base : Heap, (K w.params).In base → base.Ns mainGlobals mg → FnOk l.prog w (K w.params) mg base (CX w) k fa fd [x] (sp w))
    (hsp : ∀ (w : World) (H : Hp) (a : Addr) (ns : List Int), ns.length ≤ n → (∀ m ∈ ns, Builtin.Int.intBits m ≤ 2 ^ 20) → Only H → SqL (K w.params) H a (ns.map V.int) → sp w [.ref a] H (fun v _ => v = .bl true) fun _ _ _ => False)
    (hCX : ∀ (w : World) (H : Hp) (s : Shared) (e : Value) (s' : Shared), CX w [] H s (fun _ _ _ => False) e s' → False) :
    PySem.W.WalkO q loose XP YP l.row.toRowW d [] (fun f vs => PySem.call f vs) := by
  refine Att.attach_callB hn hdf fun w s₀ s₁ mg mb fa o pm cd doc a vs ns G Y ho hd hcd hmg hobj hints hlen hbits hg => ?_
  have KX := hY w _ Y
  obtain ⟨fd, hb, hF⟩ := F w mg fa _ KX G.T.g hmg
  exact law_call KX G.T.g G.T.b G.T.builtins G.T.nolimit hg hobj hints (Nat.le_trans hlen hn2) hr hF hb (fun H hO hS => hsp w H a ns hlen hbits hO hS) fun H e s' => hCX w H s₁ e s'
end L2

end

section
set_option Elab.async false
set_option linter.all false
set_option maxRecDepth 100000
set_option maxHeartbeats 4000000
namespace L2
open PySem PySem.Spec PyProof.Rows

/-! ### the forms one uses, of comprehensions -/
section
variable {K : PySem.W.Frag} {g : TG} {tf : TT} {te : TE} {Q : List V → Hp → Prop} {σ : St} {H : Hp}
theorem comp_list {a : Addr} {xs : List V} (Pv : Nat → List V → St → Hp → Prop) (hn : xs.length ≤ sizeLine) (h0 : Pv 0 [] σ H) (hl : ∀ i ys σ H, i ≤ xs.length → Pv i ys σ H → SqL K H a xs ∧ ys.length ≤ i)
    (hs : ∀ i x ys σ H, xs[i]? = some x → Pv i ys σ H → g x σ H fun σ2 H2 => tf σ2 H2 fun b H3 => if b = true then te σ2 H3 fun y H4 => Pv (i + 1) (ys ++ [y]) σ2 H4 else Pv (i + 1) ys σ2 H3)
    (hd : ∀ ys σ H, Pv xs.length ys σ H → Q ys H) : CompW (Itl K a) g tf te Q σ H := by
  refine ⟨fun i m ys σ H => m = xs.length - i ∧ i ≤ xs.length ∧ Pv i ys σ H, ⟨xs.length, by simp, Nat.zero_le _, h0⟩, ?_⟩
  rintro i m ys σ H ⟨rfl, hi, p⟩
  obtain ⟨q, hz⟩ := hl i ys σ H hi p
  by_cases hlt : i < xs.length
  · refine .inr ⟨⟨xs, xs[i], q, by simp [hlt]⟩, by omega, Pv (i + 1), fun ys' σ' H' p' => ⟨xs.length - (i + 1), by omega, rfl, hlt, p'⟩, fun x H' y => ?_⟩
    obtain ⟨e, y⟩ := y
    subst e
    exact hs i x ys σ _ (y xs q) p
  · have e : i = xs.length := by omega
    subst e
    exact .inl ⟨⟨xs, q, Nat.le_refl _⟩, by omega, hd ys σ H p⟩
end
/-- a pair's target -/
theorem g_pair {K : PySem.W.Frag} {i j : Nat} {T : Addr} {x y : V} {σ : St} {H : Hp} {Q : St → Hp → Prop} (h : Q ((σ.set i (some x)).set j (some y)) (upd H T (.tup [x, y]))) :
    gTup K 2 (gCons (gName i) (gCons (gName j) gNil)) (.ref T) σ (upd H T (.tup [x, y])) Q :=
  ⟨T, [x, y], rfl, SqT.of upd_same, rfl, x, [y], rfl, y, [], rfl, rfl, h⟩
/-- over a list's enumeration, that the body leaves as it is -/
theorem for_enum {K : PySem.W.Frag} {a : Addr} {xs : List V} {g : TG} {tb : TS} {D : Ends} {σ : St} {H : Hp} (Pv : Nat → St → Hp → Prop) (h0 : Pv 0 σ H) (hl : ∀ i σ H, i ≤ xs.length → Pv i σ H → SqL K H a xs)
    (hs : ∀ i x T σ H, xs[i]? = some x → H T = none → Pv i σ H → g (.ref T) σ (upd H T (.tup [.int i, x])) fun σ2 H2 => tb { D with nx := Pv (i + 1), ct := Pv (i + 1), bk := D.nx } σ2 H2) (hd : ∀ σ H, Pv xs.length σ H → D.nx σ H) :
    ∃ W : Nat → Nat → St → Hp → Prop, (∃ m, W 0 m σ H) ∧ ∀ i m σ H, W i m σ H →
      ((Ite K a).stop i H ∧ D.nx σ H) ∨ ((Ite K a).go i H ∧ ∃ N : St → Hp → Prop, (∀ σ' H', N σ' H' → ∃ m', m' < m ∧ W (i + 1) m' σ' H') ∧ ∀ x H', (Ite K a).yld i H x H' → g x σ H' fun σ2 H2 => tb { D with nx := N, ct := N, bk := D.nx } σ2 H2) := by
  refine ⟨fun i m σ H => m = xs.length - i ∧ i ≤ xs.length ∧ Pv i σ H, ⟨xs.length, by simp, Nat.zero_le _, h0⟩, ?_⟩
  rintro i m σ H ⟨rfl, hi, p⟩
  have q := hl i σ H hi p
  by_cases hlt : i < xs.length
  · refine .inr ⟨⟨xs, xs[i], q, by simp [hlt]⟩, Pv (i + 1), fun σ' H' p' => ⟨xs.length - (i + 1), by omega, rfl, hlt, p'⟩, fun v H' y => ?_⟩
    obtain ⟨T, x, hT, rfl, rfl, y⟩ := y
    exact hs i x T σ _ (y xs q) hT p
  · have e : i = xs.length := by omega
    subst e
    exact .inl ⟨⟨xs, q, Nat.le_refl _⟩, hd σ H p⟩
end L2

end

section
set_option Elab.async false
set_option linter.all false
set_option maxRecDepth 100000
namespace Cb
open PySem

/-! ### bits -/
def bitsL : Nat → Nat → List Nat
  | _, 0 => []
  | n, m + 1 => (n % 2) :: bitsL (n / 2) m
def num : List Nat → Nat
  | [] => 0
  | b :: r => b + 2 * num r
def Bit (l : List Nat) : Prop := ∀ b ∈ l, b ≤ 1
/-! ### how many ones, the single ones -/
def ones : Nat → Nat
  | 0 => 0
  | n + 1 => (n + 1) % 2 + ones ((n + 1) / 2)
decreasing_by omega
def sgl : Nat → List Nat
  | 0 => []
  | n + 1 => if (n + 1) % 2 = 1 then 1 :: (sgl ((n + 1) / 2)).map (2 * ·) else (sgl ((n + 1) / 2)).map (2 * ·)
decreasing_by all_goals omega
/-! ### the machine's & on numbers from 0 on -/
theorem band (a b : Nat) : Builtin.bitAnd (a : Int) (b : Int) = ((a &&& b : Nat) : Int) := by
  unfold Builtin.bitAnd
  simp
end Cb

end

section
set_option Elab.async false
set_option linter.all false
set_option maxRecDepth 100000
set_option maxHeartbeats 4000000
namespace L2
open PySem PySem.Spec PyProof.Rows

/-! ### the names of a comprehension, by computation -/
def srcOk (N : List Str) (names : List (Str × NameKind)) : List (Option Nat) → List Str → Bool
  | [], [] => true
  | none :: r, _ :: s => srcOk N names r s
  | some i :: r, x :: s => (N[i]? == some x) && (names.lookup x == some .free) && srcOk N names r s
  | _, _ => false
def ndOk : List (Str × NameKind) → Bool
  | [] => true
  | x :: r => (r.all fun y => x.1 != y.1) && ndOk r
def compCheck (N : List Str) (osc : Scope) (Nc : List Str) (src : List (Option Nat)) (scope : Scope) : Bool :=
  scope.kind == .function && (scope.names.all fun x => x.2 != .cell) && ndOk scope.names &&
  (scope.names.all fun x => x.2 != .free || osc.names.lookup x.1 == some .cell || osc.names.lookup x.1 == some .free) && srcOk N scope.names src Nc
theorem srcOk_len {N : List Str} {names : List (Str × NameKind)} : ∀ {src : List (Option Nat)} {Nc : List Str}, srcOk N names src Nc = true → src.length = Nc.length
  | [], [], _ => rfl
  | none :: r, _ :: s, h => by simp only [List.length_cons]; rw [srcOk_len (src := r) (Nc := s) h]
  | some i :: r, x :: s, h => by
    simp only [srcOk, Bool.and_eq_true] at h
    simp only [List.length_cons]; rw [srcOk_len h.2]
  | [], _ :: _, h => by simp [srcOk] at h
  | none :: _, [], h => by simp [srcOk] at h
  | some _ :: _, [], h => by simp [srcOk] at h
theorem srcOk_src {N : List Str} {names : List (Str × NameKind)} : ∀ {src : List (Option Nat)} {Nc : List Str}, srcOk N names src Nc = true → ∀ (j i : Nat), src[j]? = some (some i) → ∃ x, Nc[j]? = some x ∧ N[i]? = some x ∧ names.lookup x = some .free
  | [], [], _, j, i, e => by simp at e
  | none :: r, y :: s, h, 0, i, e => by simp at e
  | none :: r, y :: s, h, j + 1, i, e => by
    have := srcOk_src (src := r) (Nc := s) h j i (by simpa using e)
    simpa using this
  | some k :: r, x :: s, h, 0, i, e => by
    simp only [srcOk, Bool.and_eq_true, beq_iff_eq] at h
    simp only [List.getElem?_cons_zero, Option.some.injEq] at e
    subst e
    exact ⟨x, rfl, h.1.1, h.1.2⟩
  | some k :: r, x :: s, h, j + 1, i, e => by
    simp only [srcOk, Bool.and_eq_true] at h
    have := srcOk_src (src := r) (Nc := s) h.2 j i (by simpa using e)
    simpa using this
  | [], _ :: _, h, _, _, _ => by simp [srcOk] at h
  | none :: _, [], h, _, _, _ => by simp [srcOk] at h
  | some _ :: _, [], h, _, _, _ => by simp [srcOk] at h
theorem ndOk_nd : ∀ {l : List (Str × NameKind)}, ndOk l = true → l.Pairwise fun x y => x.1 ≠ y.1
  | [], _ => .nil
  | x :: r, h => by
    simp only [ndOk, Bool.and_eq_true, List.all_eq_true, bne_iff_ne] at h
    exact .cons h.1 (ndOk_nd h.2)
theorem compOk_of {N : List Str} {osc : Scope} {Nc : List Str} {src : List (Option Nat)} {scope : Scope} (h : compCheck N osc Nc src scope = true) : CompOk N osc Nc src scope := by
  simp only [compCheck, Bool.and_eq_true, beq_iff_eq, List.all_eq_true, bne_iff_ne] at h
  obtain ⟨⟨⟨⟨h1, h2⟩, h3⟩, h4⟩, h5⟩ := h
  refine ⟨h1, h2, ndOk_nd h3, fun x hx hf => ?_, srcOk_len h5, srcOk_src h5⟩
  have := h4 x hx
  simp only [Bool.or_eq_true, bne_iff_ne, beq_iff_eq] at this
  rcases this with (z | z) | z
  · exact absurd hf z
  · exact .inl z
  · exact .inr z

/-! ### what is called, by its name -/
structure Cal (P : Program) (w : World) (K : PySem.W.Frag) (mg : Str → Option Value) (base : Heap) (k : Nat) (x : Str) (ps : List Str) (sp : Sp) : Prop where
  ex : ∃ f fd, FnOk P w K mg base CX0 k f fd ps sp ∧ mg x = some (.ref f) ∧ PySem.W.keepIn K (.ref f) = true ∧ Binds K fd ps []
structure CalK (P : Program) (w : World) (K : PySem.W.Frag) (mg : Str → Option Value) (base : Heap) (k : Nat) (x : Str) (ps ks : List Str) (sp : Sp) (gV : List V → List V → List V) : Prop where
  ex : ∃ f fd g, FnOk P w K mg base CX0 k f fd ps sp ∧ mg x = some (.ref f) ∧ PySem.W.keepIn K (.ref f) = true ∧ KBinds K fd ps ks g gV
section
variable {X : Cx} {k : Nat} {ps ks : List Str} {sp : Sp} {x : Str} {p pos : Pos} {e : Expr} {es : List Expr} {t tk : TA} {kws : List Keyword} {gV : List V → List V → List V}
theorem pe_cal (C : Cal X.prog X.w X.K X.mg X.base k x ps sp) (hr : Room k X.A) (hg : Gl X x) (ha : PA X (e :: es) t) (hdb : (x == ("__debug__" : Str)) = false := by decide)
    (he : starEach (e :: es) X.env = (false, eval e X.env) :: starEach es X.env := by rfl) (hpl : (backTo pos (starEach es X.env)).any (·.1) = false := by rfl) : PE X (.Call (.Name x p) (e :: es) [] pos) (tCall sp [] E0 t) := by
  obtain ⟨f, fd, F, hm, hk, hb⟩ := C.ex
  exact pe_call F hr hg hm hk hb .nil pass0 ha hdb he hpl
end
def kw0 {α : Type} (us zs : List α) : List α := match us with
  | [] => zs
  | _ => []
def sw2 {α : Type} (us zs : List α) : List α := match us, zs with
  | [], [a, b] => [b, a]
  | _, _ => []
end L2

namespace Cb
open PySem L2
/-! ### heaps -/
/-- all that was tracked, but p, is as it was -/
def KeepP (p : Addr) (H H' : Hp) : Prop := ∀ b o, b ≠ p → H b = some o → H' b = some o
theorem KeepP.refl (p : Addr) (H : Hp) : KeepP p H H := fun _ _ _ h => h
theorem KeepP.trans {p : Addr} {H H1 H2 : Hp} (a : KeepP p H H1) (b : KeepP p H1 H2) : KeepP p H H2 := fun c o n h => b c o n (a c o n h)
theorem KeepP.of {p : Addr} {H H' : Hp} (h : Same H H') : KeepP p H H' := fun b o _ e => h b o e
theorem same_new {H : Hp} {p : Addr} {o : HO} (h : H p = none) : Same H (upd H p o) := fun b u e => by rw [upd_ne (ne_of_none e h)]; exact e
/-- the numbers of a list -/
def vN (l : List Nat) : List V := l.map fun (b : Nat) => V.int (b : Int)
def BIG : Int := 10 ^ 40 + 121
/-- a feed: three numbers, of which the third one is at most n -/
def FeedAt (H : Hp) (p : Addr) (n : Nat) : Prop := ∃ a b c : Int, H p = some (.lst [.int a, .int b, .int c]) ∧ 0 ≤ a ∧ 0 ≤ b ∧ b < BIG ∧ 0 ≤ c ∧ c ≤ n
/-! ### the promises of the common defs -/
def spPick : Sp := fun vs H Q _ => ∃ (p : Addr) (m : Int) (n : Nat), vs = [.ref p, .int m] ∧ FeedAt H p n ∧ n < 2 ^ 40 ∧ 0 < m ∧ m ≤ 2 ^ 64 ∧
  ∀ (r : Nat) (H' : Hp), (r : Int) < m → FeedAt H' p (n + 1) → (∀ b, b ≠ p → H' b = H b) → Q (.int (r : Int)) H'
def spFeed : Sp := fun vs H Q _ => ∃ c : Int, vs = [.int c] ∧ Builtin.Int.intBits c ≤ 2 ^ 20 ∧ ∀ (p : Addr) (H' : Hp), H p = none → FeedAt H' p 0 → Same H H' → Q (.ref p) H'
def spBits : Sp := fun vs H Q _ => ∃ (n m : Nat), vs = [.int (n : Int), .int (m : Int)] ∧ m ≤ 1000 ∧ ∀ (p : Addr) (H' : Hp), H p = none → H' p = some (.lst (vN (bitsL n m))) → Same H H' → Q (.ref p) H'
def spNum (K : PySem.W.Frag) : Sp := fun vs H Q _ => ∃ (p : Addr) (l : List Nat), vs = [.ref p] ∧ SqL K H p (vN l) ∧ ∀ H', Same H H' → Q (.int (num l : Int)) H'
def spMask : Sp := fun vs H Q _ => ∃ (p : Addr) (m n : Nat), vs = [.ref p, .int (m : Int)] ∧ FeedAt H p n ∧ n + 1000 < 2 ^ 40 ∧ 1 ≤ m ∧ m ≤ 64 ∧
  ∀ (v : Nat) (H' : Hp), v < 2 ^ m → FeedAt H' p (n + 1000) → KeepP p H H' → Q (.int (v : Int)) H'
def spWhole : Sp := fun vs H Q _ => ∃ a b : Int, vs = [.int a, .int b] ∧ Q (.bl (decide (a = b))) H
/-- _law_right's: a feed of few draws -/
def spRight : Sp := fun vs H Q _ => ∃ p : Addr, vs = [.ref p] ∧ FeedAt H p 0 ∧ ∀ H', KeepP p H H' → Q (.bl true) H'
def spLaw (K : PySem.W.Frag) : Sp := fun vs H Q _ => ∃ (a : Addr) (ns : List Int), vs = [.ref a] ∧ SqL K H a (ns.map V.int) ∧ ns.length ≤ 63 ∧ (∀ m ∈ ns, Builtin.Int.intBits m ≤ 2 ^ 20) ∧ ∀ H', Q (.bl true) H'
def spSingles : Sp := fun vs H Q _ => ∃ n : Nat, vs = [.int (n : Int)] ∧ n < 2 ^ 64 ∧ ∀ (p : Addr) (H' : Hp), H p = none → H' p = some (.lst (vN (sgl n))) → Same H H' → Q (.ref p) H'
def spOnes : Sp := fun vs H Q _ => ∃ n : Nat, vs = [.int (n : Int)] ∧ n < 2 ^ 64 ∧ ∀ H', Same H H' → Q (.int (ones n : Int)) H'
end Cb

end

section
set_option Elab.async false
set_option linter.all false
set_option maxRecDepth 100000
set_option maxHeartbeats 4000000
namespace L2
open PySem PySem.Spec PyProof.Rows
/-! ### the rules that speak of the written part, with it named (inside a comprehension) -/
section
variable {X : Cx} {K : PySem.W.Frag}
theorem pg_tupE (n : Nat) (hK : X.K = K) {es : List Expr} {k : Nat} {t : TGs} {pos : Pos} (hc : X.calm = true) (h : PGs X es t)
    (hn : (assignEach es X.env).length = n := by rfl) (hst : (assignEach es X.env).findIdx? (·.1) = none := by rfl) : PG X (.Tuple es k pos) (gTup K n t) := by
  subst hK; exact pg_tup hc h hn hst
theorem op_catSE (hK : X.K = K) : OpR X (binaryOp .Add) (rCatS K) := by subst hK; exact op_catS
end
end L2

end

section
set_option Elab.async false
set_option linter.all false
set_option maxRecDepth 100000
set_option maxHeartbeats 4000000
namespace L2
open PySem PySem.Spec PyProof.Rows
/-! ### zip of three lists -/
abbrev Trip (h : Heap) (T : Addr) (a b c : Value) : Prop := h.get? T = some { cls := .type "tuple", data := .seq #[a, b, c] }
structure Far3 (z TO i1 i2 i3 : Addr) : Prop where
  oz : TO ≠ z
  az : i1 ≠ z
  bz : i2 ≠ z
  cz : i3 ≠ z
  oa : TO ≠ i1
  ob : TO ≠ i2
  oc : TO ≠ i3
  ab : i1 ≠ i2
  ac : i1 ≠ i3
  bc : i2 ≠ i3
/-- a list is none of the zip's own objects -/
structure FarL (z TO i1 i2 i3 l : Addr) : Prop where
  z : l ≠ z
  o : l ≠ TO
  a : l ≠ i1
  b : l ≠ i2
  c : l ≠ i3
section
variable {prog : Program} {w : World} {A : Around} {E : Value → Shared → Prop} {s : Shared}
end
abbrev zA (h : Heap) (l : Addr) : Heap := h.push { cls := .type "list_iterator", data := .fields #[.ref l, .int 0 0] }
abbrev zB (h : Heap) (l1 l2 l3 : Addr) : Heap := (zA (zA (zA h l1) l2) l3).push { cls := .type "tuple", data := .seq #[.ref h.objs.size, .ref (zA h l1).objs.size, .ref (zA (zA h l1) l2).objs.size] }
abbrev zC (h : Heap) (l1 l2 l3 : Addr) : Heap := (zB h l1 l2 l3).push { cls := .type "tuple", data := .seq #[.none, .none, .none] }
abbrev zD (h : Heap) (l1 l2 l3 : Addr) : Heap := (zC h l1 l2 l3).push { cls := .type "zip", data := .fields #[.none, .bool false, .bool false, .ref (zA (zA (zA h l1) l2) l3).objs.size, .ref (zB h l1 l2 l3).objs.size] }
end L2

end

section
set_option Elab.async false
set_option linter.all false
set_option maxRecDepth 100000
set_option maxHeartbeats 4000000
namespace L2
open PySem PySem.Spec PyProof.Rows
def Itz3 (K : PySem.W.Frag) (a b c : Addr) : It :=
  ⟨fun i H => ∃ xs x ys y us u, SqL K H a xs ∧ SqL K H b ys ∧ SqL K H c us ∧ xs[i]? = some x ∧ ys[i]? = some y ∧ us[i]? = some u,
   fun i H v H' => ∃ T x y u, H T = none ∧ v = .ref T ∧ H' = upd H T (.tup [x, y, u]) ∧ (∀ xs, SqL K H a xs → xs[i]? = some x) ∧ (∀ ys, SqL K H b ys → ys[i]? = some y) ∧ ∀ us, SqL K H c us → us[i]? = some u,
   fun i H => ∃ xs, SqL K H a xs ∧ xs.length ≤ i⟩
def iZip3 (K : PySem.W.Frag) (ta : TA) : TI := fun σ H R => ta σ H fun vs H1 => ∃ a b c, vs = [.ref a, .ref b, .ref c] ∧ (∃ xs, SqL K H1 a xs) ∧ (∃ ys, SqL K H1 b ys) ∧ (∃ us, SqL K H1 c us) ∧ R (Itz3 K a b c) H1
end L2

end

section
set_option Elab.async false
set_option linter.all false
set_option maxRecDepth 100000
set_option maxHeartbeats 4000000
namespace L2
open PySem PySem.Spec PyProof.Rows Builtin

/-! ### a def with defaults -/
structure FunD (K : PySem.W.Frag) (x qual : Str) (st : Stmt) (dV : Value) (f : Addr) (fd : FuncData) : Prop where
  ex : ∃ (oc : Value) (od : Option Addr) (kV doc pm : Value) (an : Option Addr) (cdv ct : Value) (osl : Array (Option Value)),
    fd = PySem.W.fnOf x qual (defArgs st) (defBody st) (defScope st) dV kV doc pm an cdv ct ∧ K.lookup f = some ⟨oc, od, .func fd, osl⟩ ∧ PySem.W.codeIn K cdv qual = true
  kp : PySem.W.keepIn K (.ref f) = true
section
variable {P : Program} {w : World} {K : PySem.W.Frag} {mg : Str → Option Value} {base : Heap}
theorem funD_mk {x qual : Str} {st : Stmt} {dV : Value} {f : Addr} {oc : Value} {od an : Option Addr} {osl : Array (Option Value)} {kV doc pm cdv ct : Value} (l : K.lookup f = some ⟨oc, od, .func (PySem.W.fnOf x qual (defArgs st) (defBody st) (defScope st) dV kV doc pm an cdv ct), osl⟩)
    (c : PySem.W.codeIn K cdv qual = true) (k : PySem.W.keepIn K (.ref f) = true) : FunD K x qual st dV f (PySem.W.fnOf x qual (defArgs st) (defBody st) (defScope st) dV kV doc pm an cdv ct) := ⟨⟨oc, od, kV, doc, pm, an, cdv, ct, osl, rfl, l, c⟩, k⟩
theorem FunD.kbinds {x qual : Str} {st : Stmt} {T : Addr} {o : Obj} {items : Array Value} {n : Nat} {f : Addr} {fd : FuncData} {ps ks : List Str} {g : List Value → List Value → List Value} {gV : List V → List V → List V} (F : FunD K x qual st (.ref T) f fd)
    (ho : K.lookup T = some o) (hs : o.data = .seq items n)
    (h : ∀ (kV doc pm : Value) (an : Option Addr) (cdv ct : Value) (us ws : List Value), (g us ws).length = ps.length → ∃ q, bindArgs (PySem.W.fnOf x qual (defArgs st) (defBody st) (defScope st) (.ref T) kV doc pm an cdv ct) ⟨us, ks.zip ws⟩ = seqItems? (.ref T) >>= q ∧ q (some items) = pure (ps.zip (g us ws)))
    (rel : ∀ {vs : List V} {us : List Value} {zs : List V} {ws : List Value}, Vals vs us → Vals zs ws → Vals (gV vs zs) (g us ws)) : KBinds K fd ps ks g gV := by
  obtain ⟨oc, od, kV, doc, pm, an, cdv, ct, osl, rfl, lk, hcd⟩ := F.ex
  refine ⟨fun s us ws X hl => ?_, rel⟩
  obtain ⟨q, h1, h2⟩ := h kV doc pm an cdv ct us ws hl
  exact PySem.W.binds_K X rfl ho hs h1 h2
theorem KBinds.pos {fd : FuncData} {ps : List Str} (b : Binds K fd ps []) : KBinds K fd ps [] (fun us _ => us) (fun vs _ => vs) :=
  ⟨fun s us ws X hl => by have := b s us X (by rw [List.append_nil]; exact hl); rw [List.append_nil] at this; exact this, fun r _ => r⟩
end
/-- keywords behind what stands by place, then the defaults -/
def appD {α : Type} (ds : List α) (us zs : List α) : List α := us ++ (zs ++ ds)
def swS {α : Type} (us zs : List α) : List α := match zs with
  | [a, b] => us ++ [b, a]
  | _ => []
/-! ### methods, whose class the reading tells -/
structure Mth (P : Program) (w : World) (K : PySem.W.Frag) (mg : Str → Option Value) (base : Heap) (k : Nat) (C : Addr) (m : Str) (ks : List Str) (gV : List V → List V → List V) (sp : Sp) : Prop where
  cls : Cls K C
  ex : ∃ f fd ps g, Meth K C m f ∧ FnOk P w K mg base CX0 k f fd ps sp ∧ KBinds K fd ps ks g gV
/-- o.m(.., k = v, ..) -/
def tMth (P : Program) (w : World) (K : PySem.W.Frag) (mg : Str → Option Value) (base : Heap) (k : Nat) (m : Str) (ks : List Str) (ta : TE) (t tk : TA) : TE := fun σ H Q => ta σ H fun x H1 => ∃ a C dx fs gV sp, x = .ref a ∧ H1 a = some (.ins C dx fs) ∧ Mth P w K mg base k C m ks gV sp ∧ fs.lookup m = none ∧
  t σ H1 fun vs H2 => tk σ H2 fun zs H3 => sp (gV (x :: vs) zs) H3 Q E0
section
variable {X : Cx} {k : Nat} {C : Addr} {ks : List Str} {x m : Str} {p pos apos : Pos} {e o : Expr} {es : List Expr} {kws : List Keyword} {ta : TE} {t tk : TA}
theorem pe_mth0 {P : Program} {w : World} {K : PySem.W.Frag} {mg : Str → Option Value} {base : Heap} (k : Nat) (hX : X.prog = P ∧ X.w = w ∧ X.K = K ∧ X.mg = mg ∧ X.base = base) (hr : Room k X.A) {pl : Sem Bool} (he : PE X o ta)
    (ht : eval (.Call (.Attribute o m apos) [] [] pos) X.env = (do
      let ov ← eval o X.env
      standAt apos.atName
      let (f, first) ← holding [ov] (getMethod ov m pl)
      callWith pos f first (backTo pos (starEach [] X.env)) (backToKw pos (keywordEach [] X.env))) := by rfl) :
    PE X (.Call (.Attribute o m apos) [] [] pos) (tMth P w K mg base k m [] ta tNil tNil) := by
  obtain ⟨rfl, rfl, rfl, rfl, rfl⟩ := hX
  intro pins s σ H Q I h
  refine PySem.W.methodCall_KW (pl := pl) (thn (he pins s σ H _ I h) fun u s1 ⟨x, H1, I1, rx, a, C, dx, fs, gV, sp, ex, ea, M, l, q⟩ => ?_) ht
  obtain ⟨c, f, fd, ps, g, hm, F, hb⟩ := M
  subst ex
  obtain rfl : u = Value.ref a := rx
  refine getmeth_ok I1 ea c hm l ?_
  exact PySem.W.callWith_K0 (first := [.ref a]) I1.kIn hm.kp (run_fnk (us := [.ref a]) (vs := [.ref a]) (ws := []) (zs := []) F hr hb pass0 I1 (.cons rfl .nil) .nil q)
end

/-! ### len of an own object -/
def tLenO (P : Program) (w : World) (K : PySem.W.Frag) (mg : Str → Option Value) (base : Heap) (k : Nat) (ta : TE) : TE := fun σ H Q => ta σ H fun x H1 => ∃ a C dx fs gV sp, x = .ref a ∧ H1 a = some (.ins C dx fs) ∧ Mth P w K mg base k C "__len__" [] gV sp ∧
  sp (gV [x] []) H1 (fun v H2 => ∃ n : Int, v = .int n ∧ 0 ≤ n ∧ n < 2 ^ 63 ∧ Q (.int n) H2) E0
section
variable {X : Cx} {e : Expr} {p pos : Pos} {ta : TE}
def lenQ (X : Cx) (k : Nat) (Q : VK) (vs : List V) (H1 : Hp) : Prop := match vs with
  | [x] => ∃ a C dx fs gV sp, x = .ref a ∧ H1 a = some (.ins C dx fs) ∧ Mth X.prog X.w X.K X.mg X.base k C "__len__" [] gV sp ∧ sp (gV [x] []) H1 (fun v H2 => ∃ n : Int, v = .int n ∧ 0 ≤ n ∧ n < 2 ^ 63 ∧ Q (.int n) H2) E0
  | _ => False
/-- what a __len__ told -/
def LenIs (Q : Value → Shared → Prop) : Value → Shared → Prop
  | .int n _, s' => 0 ≤ n ∧ n < 2 ^ 63 ∧ Q (.int n s'.toks) { s' with toks := s'.toks + 1 }
  | _, _ => False
theorem lenOwn {prog : Program} {w : World} {A : Around} {E : Value → Shared → Prop} {s : Shared} {K : PySem.W.Frag} {a C f : Addr} {ob : Obj} {od : Option Obj} {Q : Value → Shared → Prop} (X : K.In s.heap) (I : PySem.W.InstAt s.heap a ob C od)
    (hs : PySem.W.findIn K (.ref C) "__len__" = some (some (.ref f))) (ht : PySem.W.typeIn K (.ref f) = some (.type "function"))
    (h : wpAny (model prog w) A.in1 (call (.ref f) [.ref a]) (LenIs Q) E s) : wpAny (model prog w) A (call (.builtin "len") [.ref a]) Q E s := by
  refine Calls.call_function_entry kind_len plain_len entry_len (args_len1 _) ?_
  delta Builtin.«len»
  refine wpAny_bind (m := oneArg "len" _) (wpAny_pure (wpAny_bind (m := callSpecial? (.ref a) (Str.ofString "__len__")) (PySem.W.special_fn X I hs ht (wpAny_mono h (fun r s' hr => ?_) (fun _ _ z => z)))))
  cases r with
  | int n t =>
    obtain ⟨h0, h1, hq⟩ := hr
    refine wpAny_bind (wpAny_holding (wpAny_pure (wpAny_bind (wpAny_letGo ?_))))
    have e1 : ¬ n < 0 := by omega
    have e2 : ¬ n ≥ 2 ^ 63 := by omega
    dsimp only
    rw [if_neg e1, if_neg e2]
    exact wpAny_bind (wpAny_mkInt (wpAny_pure ⟨_, rfl, hq⟩))
  | _ => exact hr.elim
theorem mtyp {K : PySem.W.Frag} {C f : Addr} {m : Str} (h : Meth K C m f) : PySem.W.typeIn K (.ref f) = some (.type "function") := beq_iff_eq.mp h.fn
theorem pe_lenO {P : Program} {w : World} {K : PySem.W.Frag} {mg : Str → Option Value} {base : Heap} (k : Nat) (hX : X.prog = P ∧ X.w = w ∧ X.K = K ∧ X.mg = mg ∧ X.base = base) (hr : Room (k + 1) X.A) (hg : Gl X "len") (hm : X.mg "len" = none) (he : PE X e ta)
    (hst : starEach [e] X.env = (false, eval e X.env) :: starEach [] X.env := by rfl) : PE X (.Call (.Name "len" p) [e] [] pos) (tLenO P w K mg base k ta) := by
  obtain ⟨rfl, rfl, rfl, rfl, rfl⟩ := hX
  intro pins s σ H Q I h
  refine wpAny_Call_Name_kw (ld_blt I hg hm PySem.boot_len ?_ (by decide) (by decide))
  refine PyProof.Rows.callWith_builtin1 (thn (pa_cons (t := tNil) he pa_nil hst pos pins s σ H (lenQ X k Q) I h) fun us s1 ⟨vs, H1, I1, r1, q1⟩ => ?_) hst rfl
  cases r1 with
  | nil => exact q1.elim
  | cons ra rr => cases rr with
    | cons _ _ => exact q1.elim
    | nil =>
      obtain ⟨a, C, dx, fs, gV, sp, ex, ea, M, q⟩ := q1
      obtain ⟨c, f, fd, ps, g, hm, F, hb⟩ := M
      subst ex
      cases ra
      obtain ⟨mA, O, _⟩ := ins_get I1.hok ea
      obtain ⟨od, J, _⟩ := O.look
      refine lenOwn I1.kIn J hm.at_ (mtyp hm) ?_
      have rv : Vals (gV [V.ref a] []) (g [Value.ref a] []) := hb.rel (vs := [V.ref a]) (us := [Value.ref a]) (zs := []) (ws := []) (.cons rfl .nil) .nil
      have hl : (g [Value.ref a] []).length = ps.length := by rw [← rv.length]; exact F.len _ _ _ _ q
      have W : wpAny (model X.prog X.w) X.A.in1 (call (.ref f) [.ref a]) (EP X pins σ (fun v H2 => ∃ n : Int, v = .int n ∧ 0 ≤ n ∧ n < 2 ^ 63 ∧ Q (.int n) H2)) X.xe s1 := by
        refine wpAny_call (codeAny_mono (F.run X.A.in1 X.stack s1 H1 ⟨[.ref a], []⟩ (g [.ref a] []) (gV [.ref a] []) _ E0 hr.in1 I1.env0.in1 (hb.to s1 [.ref a] [] I1.kIn hl) rv q) fun r s' hq => ?_)
        cases r with
        | error e => exact pass0 pins σ H1 s1 e s' I1 hq
        | ok fl =>
          cases fl with
          | ret u => exact I1.after hq
          | next => exact False.elim hq
          | brk => exact False.elim hq
          | cont => exact False.elim hq
      refine wpAny_mono W (fun u s' hu => ?_) fun _ _ z => z
      · obtain ⟨v, H2, I2, rv, n, rfl, h0, h1, qn⟩ := hu
        obtain ⟨t, rfl⟩ := (show ∃ t, u = Value.int n t from rv)
        exact ⟨h0, h1, ⟨.int n, H2, I2.tok _, ⟨_, rfl⟩, qn⟩⟩
end

/-! ### C(..), its arguments by place, by name, or left out -/
structure Mak (P : Program) (w : World) (K : PySem.W.Frag) (mg : Str → Option Value) (base : Heap) (k : Nat) (x : Str) (C : Addr) (ks : List Str) (gV : List V → List V → List V) (sp : Sp) : Prop where
  at_ : mg x = some (.ref C)
  ex : ∃ f fd ps g, Mk K C f ∧ FnOk P w K mg base CX0 k f fd ps sp ∧ KBinds K fd ps ks g gV
def tMak (C : Addr) (gV : List V → List V → List V) (sp : Sp) (t tk : TA) : TE := fun σ H Q => t σ H fun vs H1 => tk σ H1 fun zs H2 => ∀ x dx, H2 x = none → H2 dx = none → dx ≠ x →
  sp (gV (.ref x :: vs) zs) (upd (upd H2 dx (.own x)) x (.ins C dx [])) (fun v H3 => v = .non ∧ Q (.ref x) H3) E0
section
variable {X : Cx} {k : Nat} {C : Addr} {ks : List Str} {gV : List V → List V → List V} {sp : Sp} {x : Str} {p pos : Pos} {e : Expr} {es : List Expr} {kws : List Keyword} {t tk : TA}
end

/-! ### C.m(..), the class's own def -/
structure Clm (P : Program) (w : World) (K : PySem.W.Frag) (mg : Str → Option Value) (base : Heap) (k : Nat) (x m : Str) (sp : Sp) : Prop where
  ex : ∃ C f fd ps mc, mg x = some (.ref C) ∧ PySem.W.specialIn K (.ref C) "__getattribute__" = some (some (.builtin "type.__getattribute__")) ∧ PySem.W.readsIn K C mc = true ∧ PySem.W.findCls K (.ref C) mc m = some (.val (.ref f)) ∧
    PySem.W.keepIn K (.ref f) = true ∧ FnOk P w K mg base CX0 k f fd ps sp ∧ Binds K fd ps []
section
variable {X : Cx} {k : Nat} {sp : Sp} {x m : Str} {p pos apos : Pos} {e : Expr} {es : List Expr} {t : TA}
theorem pe_clm (M : Clm X.prog X.w X.K X.mg X.base k x m sp) (hr : Room k X.A) (hg : Gl X x) {pl : Sem Bool} (ha : PA X (e :: es) t) (hdb : (x == ("__debug__" : Str)) = false := by decide)
    (hst : starEach (e :: es) X.env = (false, eval e X.env) :: starEach es X.env := by rfl) (hpl : (backTo pos (starEach es X.env)).any (·.1) = false := by rfl)
    (ht : eval (.Call (.Attribute (.Name x p) m apos) (e :: es) [] pos) X.env = (do
      let ov ← eval (.Name x p) X.env
      standAt apos.atName
      let (f, first) ← holding [ov] (getMethod ov m pl)
      callWith pos f first (backTo pos (starEach (e :: es) X.env)) (backToKw pos (keywordEach [] X.env))) := by rfl) :
    PE X (.Call (.Attribute (.Name x p) m apos) (e :: es) [] pos) (tCall sp [] E0 t) := by
  obtain ⟨C, f, fd, ps, mc, hm, hs, hrd, hf, hk, F, hb⟩ := M
  intro pins s σ H Q I h
  refine PySem.W.methodCall_KW (pl := pl) ?_ ht
  refine ld_glob I hg hm ?_ hdb
  refine PySem.W.method_cls I.kIn hs (PySem.W.cls_value I.kIn hrd hf rfl ?_)
  have I0 := I.tok (s.toks + 1)
  refine PySem.W.callWith_K (first := []) (h₀ := X.base) I.ok.mod.kin hk (thn (ha pos pins _ σ H _ I0 h) fun us s2 ⟨vs, H2, I2, r, q2⟩ => ⟨I2.kIn, ?_⟩) hst hpl
  exact run_fn F hr hb .nil pass0 I2 r q2
end
end L2

end

section
set_option Elab.async false
set_option linter.all false
set_option maxRecDepth 100000
set_option maxHeartbeats 4000000
namespace L2
open PySem PySem.Spec PyProof.Rows
/-! ### zip of two lists or two tuples -/
def itC (t : Bool) : String := if t then "tuple_iterator" else "list_iterator"
def sqC (t : Bool) : String := if t then "tuple" else "list"
def IsIt (t : Bool) (h : Heap) (a l : Addr) (i : Nat) : Prop := ∃ o, h.get? a = some o ∧ o.cls = .type (itC t) ∧ o.data = .fields #[.ref l, .int i 0]
def IsSq (t : Bool) (h : Heap) (a : Addr) (xs : Array Value) : Prop := ∃ o, h.get? a = some o ∧ o.cls = .type (sqC t) ∧ ∃ n, o.data = .seq xs n
theorem IsIt.at {t : Bool} {h h' : Heap} {a l : Addr} {i : Nat} (x : IsIt t h a l i) (e : ∀ o, h.get? a = some o → h'.get? a = some o) : IsIt t h' a l i := let ⟨o, ho, r⟩ := x; ⟨o, e _ ho, r⟩
theorem IsSq.at {t : Bool} {h h' : Heap} {a : Addr} {xs : Array Value} (x : IsSq t h a xs) (e : ∀ o, h.get? a = some o → h'.get? a = some o) : IsSq t h' a xs := let ⟨o, ho, r⟩ := x; ⟨o, e _ ho, r⟩
section
variable {prog : Program} {w : World} {A : Around} {E : Value → Shared → Prop} {s : Shared}
theorem nx_item {t : Bool} {it l : Addr} {i : Nat} {xs : Array Value} {x : Value} {Q : Value → Shared → Prop} (hi : IsIt t s.heap it l i) (hl : IsSq t s.heap l xs) (hx : xs[i]? = some x)
    (q : ∀ h', IsIt t h' it l (i + 1) → Heap.SameBut it s.heap h' → Q x { s with heap := h' }) : wpAny (model prog w) A (Builtin.SmallTypes.nextOf (.ref it)) Q E s := by
  cases t with
  | false => exact wpAny_nextOf_list_item hi hl hx q
  | true =>
    have ht : s.TypeIs (.ref it) "tuple_iterator" := let ⟨o, ho, hc, _⟩ := hi; ⟨o, ho, hc⟩
    obtain ⟨o, ho, hc, hd⟩ := id hi; obtain ⟨ol, hol, _, nl, hdl⟩ := hl
    delta Builtin.SmallTypes.nextOf
    refine wpAny_bind (wpAny_callSpecial?_slot (name := Str.ofString "__next__") ht F.slot_tuple_iterator_next (wpAny_call_entry F.slot_tuple_iterator_next ht F.entry_tuple_iterator_next ?_ (F.args_tuple_iterator_next_1 _)))
    show wpAny _ _ (field (.ref it) 0 >>= _) _ _ s; refine wpAny_bind (wpAny_field ho hd (x := .ref l) rfl ?_)
    show wpAny _ _ (if (Value.ref l == Value.none) = true then _ else _) _ _ s; rw [if_neg (show ¬ ((Value.ref l == Value.none) = true) from Bool.false_ne_true)]
    show wpAny _ _ (field (.ref it) 1 >>= _) _ _ s; refine wpAny_bind (wpAny_field ho hd (x := .int i 0) rfl ?_)
    show wpAny _ _ (seqItems? (.ref l) >>= _) _ _ s; refine wpAny_bind (wpAny_seqItems hol hdl ?_); simp only [Int.toNat_natCast, hx]
    refine wpAny_bind (wpAny_setField ho hd (by simp) (wpAny_pure ⟨x, rfl, wpAny_pure (q _ ⟨_, Heap.get?_update_self _ ho (Obj.isFreed_of_fields (Obj.data_mapFields hd _)), (Obj.cls_mapFields ..).trans hc, by rw [Obj.data_mapFields hd]; simp [rawInt]⟩ (Heap.SameBut.update ..))⟩))
theorem nx_end {t : Bool} {it l : Addr} {i : Nat} {xs : Array Value} {Q : Value → Shared → Prop} (hh : A.handled = none) (hi : IsIt t s.heap it l i) (hl : IsSq t s.heap l xs) (hx : xs[i]? = none)
    (q : ∀ h' e, Heap.ExtBut it s.heap h' → (∃ o, h'.get? e = some o ∧ o.cls = .type "StopIteration") → E (.ref e) { s with heap := h' }) : wpAny (model prog w) A (Builtin.SmallTypes.nextOf (.ref it)) Q E s := by
  cases t with
  | false => exact wpAny_nextOf_list_end hh hi hl hx q
  | true =>
    have ht : s.TypeIs (.ref it) "tuple_iterator" := let ⟨o, ho, hc, _⟩ := hi; ⟨o, ho, hc⟩
    obtain ⟨o, ho, hc, hd⟩ := id hi; obtain ⟨ol, hol, _, nl, hdl⟩ := hl
    delta Builtin.SmallTypes.nextOf
    refine wpAny_bind (wpAny_callSpecial?_slot (name := Str.ofString "__next__") ht F.slot_tuple_iterator_next (wpAny_call_entry F.slot_tuple_iterator_next ht F.entry_tuple_iterator_next ?_ (F.args_tuple_iterator_next_1 _)))
    show wpAny _ _ (field (.ref it) 0 >>= _) _ _ s; refine wpAny_bind (wpAny_field ho hd (x := .ref l) rfl ?_)
    show wpAny _ _ (if (Value.ref l == Value.none) = true then _ else _) _ _ s; rw [if_neg (show ¬ ((Value.ref l == Value.none) = true) from Bool.false_ne_true)]
    show wpAny _ _ (field (.ref it) 1 >>= _) _ _ s; refine wpAny_bind (wpAny_field ho hd (x := .int i 0) rfl ?_)
    show wpAny _ _ (seqItems? (.ref l) >>= _) _ _ s; refine wpAny_bind (wpAny_seqItems hol hdl ?_); simp only [Int.toNat_natCast, hx]
    refine wpAny_bind (wpAny_rule (wpAny_bind (wpAny_setField ho hd (by simp) ?_))); show wpAny _ _ (newExc (.type "StopIteration") [] >>= _) _ _ _
    refine wpAny_bind ?_; simp only [newExc, newTuple]; refine wpAny_bind (wpAny_newObj_type ?_ (by size_fits))
    refine wpAny_bind (m := firstArgMember _ _) (wpAny_of_eq (a := Value.none) (by first | rfl | (simp only [firstArgMember]; rfl)) ?_); refine wpAny_newObj_type ?_ (by size_fits)
    simp only [raiseNew]; refine wpAny_bind (wpAny_handled ?_); rw [show A.in1.handled = none from hh]; refine wpAny_bind (wpAny_pure (wpAny_throw ?_))
    exact q _ _ (((Heap.SameBut.update ..).extBut.push _).push _) ⟨_, Heap.get?_push_size _ rfl, rfl⟩
theorem it_new {t : Bool} {l : Addr} {xs : Array Value} {Q : Value → Shared → Prop} (hl : IsSq t s.heap l xs) (q : Q (.ref s.heap.objs.size) { s with heap := s.heap.push { cls := .type (itC t), data := .fields #[.ref l, .int 0 0] } }) : wpAny (model prog w) A (pyIter (.ref l)) Q E s := by
  cases t with
  | false => exact wpAny_pyIter_list hl q
  | true => exact wpAny_pyIter_tuple hl q
structure Far2 (z TO i1 i2 : Addr) : Prop where
  oz : TO ≠ z
  az : i1 ≠ z
  bz : i2 ≠ z
  oa : TO ≠ i1
  ob : TO ≠ i2
  ab : i1 ≠ i2
structure FarM (z TO i1 i2 l : Addr) : Prop where
  z : l ≠ z
  o : l ≠ TO
  a : l ≠ i1
  b : l ≠ i2
theorem upd_pair {T : Addr} {a b x : Value} {k : Nat} {Q : Unit → Shared → Prop} (hT : IsPair s.heap T a b)
    (q : ∀ h', h'.get? T = some { cls := .type "tuple", data := .seq ((#[a, b] : Array Value).setIfInBounds k x) } → Heap.SameBut T s.heap h' → Q () { s with heap := h' }) : wpAny (model prog w) A (updateSeq T (·.setIfInBounds k x)) Q E s :=
  wpAny_updateSeq hT rfl (q _ ((Heap.get?_update_self _ hT rfl).trans (by simp [Obj.mapSeq])) (Heap.SameBut.update ..))
theorem zip2_item {t : Bool} {z TI TO i1 i2 l1 l2 : Addr} {k : Nat} {xs ys : Array Value} {x y a b : Value} {Q : Value → Shared → Prop} (D : Far2 z TO i1 i2) (L1 : FarM z TO i1 i2 l1) (L2' : FarM z TO i1 i2 l2)
    (hz : IsZip s.heap z TI TO .none) (hI : IsPair s.heap TI (.ref i1) (.ref i2)) (hO : IsPair s.heap TO a b)
    (h1 : IsIt t s.heap i1 l1 k) (h2 : IsIt t s.heap i2 l2 k) (g1 : IsSq t s.heap l1 xs) (g2 : IsSq t s.heap l2 ys) (ex : xs[k]? = some x) (ey : ys[k]? = some y)
    (q : ∀ h', IsZip h' z TI TO (rawInt s.heap.objs.size) → IsPair h' TO x y → IsIt t h' i1 l1 (k + 1) → IsIt t h' i2 l2 (k + 1) → IsPair h' s.heap.objs.size x y → h'.objs.size = s.heap.objs.size + 1 →
      (∀ d o, d ≠ z → d ≠ TO → d ≠ i1 → d ≠ i2 → s.heap.get? d = some o → h'.get? d = some o) → Q (.ref s.heap.objs.size) { s with heap := h' }) :
    wpAny (model prog w) A (Builtin.«zip.__next__» ⟨[.ref z], []⟩) (fun fin s' => ∃ v, fin = .done (.ret v) ∧ Q v s') E s := by
  show wpAny _ _ (field (.ref z) 2 >>= _) _ _ _
  refine wpAny_bind (wpAny_field hz rfl (x := .bool false) rfl ?_); show wpAny _ _ (field (.ref z) 3 >>= _) _ _ _
  refine wpAny_bind (wpAny_field hz rfl (x := .ref TI) rfl (wpAny_bind (wpAny_seqItems hI rfl ?_))); show wpAny _ _ (Builtin.SmallTypes.ownedTupleIsFree (.ref z) >>= _) _ _ _
  refine wpAny_bind ?_; unfold Builtin.SmallTypes.ownedTupleIsFree
  refine wpAny_bind (wpAny_field hz rfl (x := .none) rfl (wpAny_pure ?_)); simp only [if_true]
  refine wpAny_bind (wpAny_rule (wpAny_bind (wpAny_field hz rfl (x := .ref TO) rfl ?_)))
  refine wpAny_bind (wpAny_setField_rec hz (by simp) fun e1 z1 b1 => ?_)
  replace z1 : IsZip e1 z TI TO .ellipsis := z1
  refine wpAny_bind ?_; simp only [List.zipIdx_cons, List.zipIdx_nil, List.forIn_cons, List.forIn_nil]
  refine wpAny_bind (wpAny_bind (wpAny_onRaise ?_)); show wpAny _ _ (Builtin.SmallTypes.nextOf (.ref i1) >>= _) _ _ _
  refine wpAny_bind (nx_item (h1.at fun o e => b1.extBut _ _ D.az e) (g1.at fun o e => b1.extBut _ _ L1.z e) ex fun e2 n1 b2 => wpAny_pure ?_)
  have O2 : IsPair e2 TO a b := b2.extBut _ _ D.oa (b1.extBut _ _ D.oz hO)
  refine wpAny_bind (wpAny_seqItems O2 rfl (wpAny_bind (upd_pair O2 fun e3 O3 b3 => wpAny_bind (wpAny_letGo (wpAny_pure ?_)))))
  replace O3 : IsPair e3 TO x b := O3
  have up3 : ∀ d o, d ≠ z → d ≠ TO → d ≠ i1 → s.heap.get? d = some o → e3.get? d = some o := fun d o q1 q2 q3 e => b3.extBut _ _ q2 (b2.extBut _ _ q3 (b1.extBut _ _ q1 e))
  refine wpAny_bind (wpAny_bind (wpAny_onRaise ?_)); show wpAny _ _ (Builtin.SmallTypes.nextOf (.ref i2) >>= _) _ _ _
  refine wpAny_bind (nx_item (h2.at fun o e => up3 _ o D.bz D.ob.symm D.ab.symm e) (g2.at fun o e => up3 _ o L2'.z L2'.o L2'.a e) ey fun e4 n2 b4 => wpAny_pure ?_)
  have O4 : IsPair e4 TO x b := b4.extBut _ _ D.ob O3
  refine wpAny_bind (wpAny_seqItems O4 rfl (wpAny_bind (upd_pair O4 fun e5 O5 b5 => wpAny_bind (wpAny_letGo (wpAny_pure (wpAny_pure ?_))))))
  replace O5 : IsPair e5 TO x y := O5
  have up5 : ∀ d o, d ≠ z → d ≠ TO → d ≠ i1 → d ≠ i2 → s.heap.get? d = some o → e5.get? d = some o := fun d o q1 q2 q3 q4 e => b5.extBut _ _ q2 (b4.extBut _ _ q4 (up3 d o q1 q2 q3 e))
  have sz : e5.objs.size = s.heap.objs.size := by rw [b5.1, b4.1, b3.1, b2.1, b1.1]
  have z7 : IsZip e5 z TI TO .ellipsis := b5.extBut _ _ D.oz.symm (b4.extBut _ _ D.bz.symm (b3.extBut _ _ D.oz.symm (b2.extBut _ _ D.az.symm z1)))
  have m1 : IsIt t e5 i1 l1 (k + 1) := n1.at fun o e => b5.extBut _ _ D.oa.symm (b4.extBut _ _ D.ab (b3.extBut _ _ D.oa.symm e))
  have m2 : IsIt t e5 i2 l2 (k + 1) := n2.at fun o e => b5.extBut _ _ D.ob.symm e
  have zl : z < e5.objs.size := Heap.lt_size z7
  refine wpAny_bind (wpAny_seqItems O5 rfl (wpAny_bind (wpAny_newTuple ?_))); show wpAny _ _ (Builtin.SmallTypes.ownedTupleHandOut (.ref z) (.ref e5.objs.size) >>= _) _ _ _
  refine wpAny_bind ?_; unfold Builtin.SmallTypes.ownedTupleHandOut
  have z8 : IsZip (e5.push { cls := .type "tuple", data := .seq #[x, y] }) z TI TO .ellipsis := Heap.get?_push_of_some _ z7
  refine wpAny_bind (wpAny_setField_rec z8 (by simp) fun e9 z9 b9 => ?_)
  replace z9 : IsZip e9 z TI TO (rawInt e5.objs.size) := z9
  refine wpAny_setField_rec z9 (by simp) fun e0 z0 b0 => ?_
  replace z0 : IsZip e0 z TI TO (rawInt e5.objs.size) := z0
  have up : ∀ d o, d ≠ z → e5.get? d = some o → e0.get? d = some o := fun d o q1 e => b0.extBut _ _ q1 (b9.extBut _ _ q1 (Heap.get?_push_of_some _ e))
  have T0 : IsPair e0 e5.objs.size x y := b0.extBut _ _ (Nat.ne_of_gt zl) (b9.extBut _ _ (Nat.ne_of_gt zl) (Heap.get?_push_size _ rfl))
  have s0 : e0.objs.size = e5.objs.size + 1 := by rw [b0.1, b9.1, Heap.size_push]
  rw [sz] at z0 T0 s0
  refine wpAny_pure ⟨_, rfl, ?_⟩; show Q (.ref e5.objs.size) _; rw [sz]
  exact q e0 z0 (up _ _ D.oz O5) (m1.at fun o e => up _ o D.az e) (m2.at fun o e => up _ o D.bz e) T0 s0 fun d o q1 q2 q3 q4 e => up d o q1 (up5 d o q1 q2 q3 q4 e)
theorem zip2_end {t : Bool} {z TI TO i1 i2 l1 : Addr} {k : Nat} {xs : Array Value} {Q : Fin → Shared → Prop} (hh : A.handled = none) (D : Far2 z TO i1 i2) (L1 : FarM z TO i1 i2 l1)
    (hz : IsZip s.heap z TI TO .none) (hI : IsPair s.heap TI (.ref i1) (.ref i2)) (h1 : IsIt t s.heap i1 l1 k) (g1 : IsSq t s.heap l1 xs) (ex : xs[k]? = none)
    (q : ∀ h' e, (∀ d o, d ≠ z → d ≠ i1 → s.heap.get? d = some o → h'.get? d = some o) → (∃ o, h'.get? e = some o ∧ o.cls = .type "StopIteration") → E (.ref e) { s with heap := h' }) :
    wpAny (model prog w) A (Builtin.«zip.__next__» ⟨[.ref z], []⟩) Q E s := by
  show wpAny _ _ (field (.ref z) 2 >>= _) _ _ _
  refine wpAny_bind (wpAny_field hz rfl (x := .bool false) rfl ?_); show wpAny _ _ (field (.ref z) 3 >>= _) _ _ _
  refine wpAny_bind (wpAny_field hz rfl (x := .ref TI) rfl (wpAny_bind (wpAny_seqItems hI rfl ?_))); show wpAny _ _ (Builtin.SmallTypes.ownedTupleIsFree (.ref z) >>= _) _ _ _
  refine wpAny_bind ?_; unfold Builtin.SmallTypes.ownedTupleIsFree
  refine wpAny_bind (wpAny_field hz rfl (x := .none) rfl (wpAny_pure ?_)); simp only [if_true]
  refine wpAny_bind (wpAny_rule (wpAny_bind (wpAny_field hz rfl (x := .ref TO) rfl ?_)))
  refine wpAny_bind (wpAny_setField_rec hz (by simp) fun e1 z1 b1 => ?_)
  replace z1 : IsZip e1 z TI TO .ellipsis := z1
  refine wpAny_bind ?_; simp only [List.zipIdx_cons, List.zipIdx_nil, List.forIn_cons, List.forIn_nil]
  refine wpAny_bind (wpAny_bind (wpAny_onRaise ?_)); show wpAny _ _ (Builtin.SmallTypes.nextOf (.ref i1) >>= _) _ _ _
  refine wpAny_bind (nx_end hh (h1.at fun o e => b1.extBut _ _ D.az e) (g1.at fun o e => b1.extBut _ _ L1.z e) ex fun e2 e b2 he => ?_)
  obtain ⟨oe, hoe, hce⟩ := he
  have z2 : IsZip e2 z TI TO .ellipsis := b2 _ _ D.az.symm z1
  have ne : e ≠ z := fun y => by subst y; rw [z2] at hoe; cases hoe; simp at hce
  exact wpAny_setField_rec z2 (by simp) fun e3 _ b3 => q e3 e (fun d o q1 q2 y => b3.extBut _ _ q1 (b2 _ _ q2 (b1.extBut _ _ q1 y))) ⟨oe, b3.extBut _ _ ne hoe, hce⟩
end
abbrev yA (t : Bool) (h : Heap) (l : Addr) : Heap := h.push { cls := .type (itC t), data := .fields #[.ref l, .int 0 0] }
abbrev yB (t : Bool) (h : Heap) (l1 l2 : Addr) : Heap := (yA t (yA t h l1) l2).push { cls := .type "tuple", data := .seq #[.ref h.objs.size, .ref (yA t h l1).objs.size] }
abbrev yC (t : Bool) (h : Heap) (l1 l2 : Addr) : Heap := (yB t h l1 l2).push { cls := .type "tuple", data := .seq #[.none, .none] }
abbrev yD (t : Bool) (h : Heap) (l1 l2 : Addr) : Heap := (yC t h l1 l2).push { cls := .type "zip", data := .fields #[.none, .bool false, .bool false, .ref (yA t (yA t h l1) l2).objs.size, .ref (yB t h l1 l2).objs.size] }
theorem zip2_new (t : Bool) (l1 l2 : Addr) (xs ys : Array Value) :
    Meets (Builtin.«zip.__new__» ⟨[.type "zip", .ref l1, .ref l2], []⟩) (fun _ R s => IsSq t s.heap l1 xs ∧ IsSq t s.heap l2 ys ∧ R (.ok (.ret (.ref (yC t s.heap l1 l2).objs.size))) { s with heap := yD t s.heap l1 l2 }) :=
  .of_wp fun prog w A R s h => by
    obtain ⟨hp, g, d, tk, os⟩ := s; obtain ⟨hl1, hl2, h⟩ := h
    have hsub := sub_zip
    have hA : IsSq t (Shared.heap ⟨hp, g, d, tk, os⟩) l1 xs := hl1
    have hB : IsSq t (Shared.heap ⟨yA t hp l1, g, d, tk, os⟩) l2 ys := hl2.at fun o e => Heap.get?_push_of_some _ e
    wp_walk using it_new hA, it_new hB
    exact ⟨_, rfl, h⟩
end L2

end

section
set_option Elab.async false
set_option linter.all false
set_option maxRecDepth 100000
set_option maxHeartbeats 4000000
namespace L2
open PySem PySem.Spec PyProof.Rows
/-- a tracked tuple or list -/
def hoX (t : Bool) (xs : List V) : HO := if t then .tup xs else .lst xs
def SqX (t : Bool) (H : Hp) (a : Addr) (xs : List V) : Prop := H a = some (hoX t xs)
theorem Inv.sqx {X : Cx} {pins : List (Addr × Obj)} {σ : St} {H : Hp} {s : Shared} (I : Inv X pins σ H s) {t : Bool} {a : Addr} {xs : List V} (h : SqX t H a xs) : ∃ its : List Value, Vals xs its ∧ IsSq t s.heap a its.toArray := by
  cases t with
  | false =>
    obtain ⟨its, r, p, _⟩ := I.list (SqL.of (xs := xs) h)
    exact ⟨its, r, p.isList⟩
  | true =>
    obtain ⟨its, r, p, _⟩ := I.tuple (SqT.of (xs := xs) h)
    exact ⟨its, r, p⟩
theorem call_zip2 {prog : Program} {w : World} {A : Around} {E : Value → Shared → Prop} {s : Shared} {t : Bool} {l1 l2 : Addr} {xs ys : Array Value} {Q : Value → Shared → Prop} (g1 : IsSq t s.heap l1 xs) (g2 : IsSq t s.heap l2 ys)
    (q : ∀ h' n, n = s.heap.objs.size → IsZip h' (n + 4) (n + 2) (n + 3) .none → IsPair h' (n + 2) (.ref n) (.ref (n + 1)) → IsPair h' (n + 3) .none .none → IsIt t h' n l1 0 → IsIt t h' (n + 1) l2 0 →
      (∀ d o, s.heap.get? d = some o → h'.get? d = some o) → Q (.ref (n + 4)) { s with heap := h' }) :
    wpAny (model prog w) A (call (.type "zip") [.ref l1, .ref l2]) Q E s := by
  refine callType_new F.called_zip (by decide) (F.typeCall_zip_2 _ _) (F.newCall_zip_2 _ _) (fun obj => F.args_object_init_3 obj _ _) F.entry_zip_new (zip2_new t l1 l2 xs ys) ⟨g1, g2, ?_⟩
  have n1 : (yA t s.heap l1).objs.size = s.heap.objs.size + 1 := Heap.size_push ..
  have n2 : (yA t (yA t s.heap l1) l2).objs.size = s.heap.objs.size + 2 := by rw [Heap.size_push, n1]
  have n3 : (yB t s.heap l1 l2).objs.size = s.heap.objs.size + 3 := by rw [Heap.size_push, n2]
  have n4 : (yC t s.heap l1 l2).objs.size = s.heap.objs.size + 4 := by rw [Heap.size_push, n3]
  have a4 : (yD t s.heap l1 l2).get? (yC t s.heap l1 l2).objs.size = some _ := Heap.get?_push_size _ rfl
  have a3 : (yD t s.heap l1 l2).get? (yB t s.heap l1 l2).objs.size = some _ := Heap.get?_push_of_some _ (Heap.get?_push_size _ rfl)
  have a2 : (yD t s.heap l1 l2).get? (yA t (yA t s.heap l1) l2).objs.size = some _ := Heap.get?_push_of_some _ (Heap.get?_push_of_some _ (Heap.get?_push_size _ rfl))
  have a1 : (yD t s.heap l1 l2).get? (yA t s.heap l1).objs.size = some _ := Heap.get?_push_of_some _ (Heap.get?_push_of_some _ (Heap.get?_push_of_some _ (Heap.get?_push_size _ rfl)))
  have a0 : (yD t s.heap l1 l2).get? s.heap.objs.size = some _ := Heap.get?_push_of_some _ (Heap.get?_push_of_some _ (Heap.get?_push_of_some _ (Heap.get?_push_of_some _ (Heap.get?_push_size _ rfl))))
  show _ ∧ _
  rw [n2, n3, n4] at a4
  rw [n3] at a3
  rw [n1, n2] at a2
  rw [n1] at a1
  rw [n4]
  exact ⟨⟨_, a4, rfl⟩, q _ _ rfl a4 a2 a3 ⟨_, a0, rfl, rfl⟩ ⟨_, a1, rfl, rfl⟩ fun d o e =>
    Heap.get?_push_of_some _ (Heap.get?_push_of_some _ (Heap.get?_push_of_some _ (Heap.get?_push_of_some _ (Heap.get?_push_of_some _ e))))⟩
def Ity (t : Bool) (a b : Addr) : It :=
  ⟨fun i H => ∃ xs x ys y, SqX t H a xs ∧ SqX t H b ys ∧ xs[i]? = some x ∧ ys[i]? = some y,
   fun i H v H' => ∃ T x y, H T = none ∧ v = .ref T ∧ H' = upd H T (.tup [x, y]) ∧ (∀ xs, SqX t H a xs → xs[i]? = some x) ∧ ∀ ys, SqX t H b ys → ys[i]? = some y,
   fun i H => ∃ xs, SqX t H a xs ∧ xs.length ≤ i⟩
theorem farM_of {t : Bool} {h : Heap} {z TI TO i1 i2 l k1 k2 : Addr} {it : Array Value} {f0 : Value} {n1 n2 : Nat} (g : IsSq t h l it) (hz : IsZip h z TI TO f0) (lo : l ≠ TO) (h1 : IsIt t h i1 k1 n1) (h2 : IsIt t h i2 k2 n2) : FarM z TO i1 i2 l := by
  have ap : ∀ {d : Addr} {o : Obj}, h.get? d = some o → o.cls ≠ .type (sqC t) → l ≠ d := fun {d o} e nc y => by
    obtain ⟨o', e', c', _⟩ := g
    rw [y, e] at e'; cases e'; exact nc c'
  obtain ⟨_, e1, c1, _⟩ := h1
  obtain ⟨_, e2, c2, _⟩ := h2
  have ne : (Value.type (itC t)) ≠ .type (sqC t) := by cases t <;> simp [itC, sqC]
  exact ⟨ap hz (by cases t <;> simp [sqC]), lo, ap e1 (by rw [c1]; exact ne), ap e2 (by rw [c2]; exact ne)⟩
theorem sqx_inj {H : Hp} {t : Bool} {a : Addr} {xs ys : List V} (h : SqX t H a xs) (h2 : SqX t H a ys) : xs = ys := by
  have e := Option.some.inj (h.symm.trans h2)
  cases t with
  | false => exact HO.lst.inj e
  | true => exact HO.tup.inj e
theorem turn_zip2 {P : Program} {w : World} {K : PySem.W.Frag} {elts : List Expr} {kt : Nat} {tp : Pos} (t : Bool) (l1 l2 z TI TO i1 i2 : Addr) (D : Far2 z TO i1 i2) (TIz : TI ≠ z) (TITO : TI ≠ TO) (TI1 : TI ≠ i1) (TI2 : TI ≠ i2) :
    Turn P w K (.Tuple elts kt tp) (Ity t l1 l2) [z, TI, TO, i1, i2] z (fun i h => IsZip h z TI TO .none ∧ IsPair h TI (.ref i1) (.ref i2) ∧ (∃ a b, IsPair h TO a b) ∧ IsIt t h i1 l1 i ∧ IsIt t h i2 l2 i) where
  mem := by simp
  obj := fun i h st b hb => by
    obtain ⟨hz, hI, ⟨_, _, hO⟩, ⟨o1, e1, _, d1⟩, ⟨o2, e2, _, d2⟩⟩ := st
    simp only [List.mem_cons, List.mem_nil_iff, or_false] at hb
    rcases hb with rfl | rfl | rfl | rfl | rfl
    · exact ⟨_, hz, fun v y => by have y' : Data.fields _ = Data.cell v := y; cases y'⟩
    · exact ⟨_, hI, fun v y => by have y' : Data.seq _ _ = Data.cell v := y; cases y'⟩
    · exact ⟨_, hO, fun v y => by have y' : Data.seq _ _ = Data.cell v := y; cases y'⟩
    · exact ⟨_, e1, fun v y => by rw [d1] at y; cases y⟩
    · exact ⟨_, e2, fun v y => by rw [d2] at y; cases y⟩
  keep := fun i h h' st k => by
    obtain ⟨hz, hI, ⟨a, b, hO⟩, h1, h2⟩ := st
    exact ⟨k z (by simp) _ hz, k TI (by simp) _ hI, ⟨a, b, k TO (by simp) _ hO⟩, h1.at fun o e => k i1 (by simp) o e, h2.at fun o e => k i2 (by simp) o e⟩
  item := by
    intro X hP hw hK hc i pins s σ H E I hf st hg
    subst hP hw hK
    obtain ⟨xs, x, ys, y, p1, p2, e1, e2⟩ := hg
    obtain ⟨t1, r1, f1⟩ := I.sqx p1
    obtain ⟨t2, r2, f2⟩ := I.sqx p2
    obtain ⟨v1, w1, rx⟩ := r1.get e1
    obtain ⟨v2, w2, ry⟩ := r2.get e2
    obtain ⟨hz, hI, ⟨a, b, hO⟩, h1, h2⟩ := st
    have nO : H TO = none := (hf TO (by simp)).1
    have far : ∀ {l : Addr} {zs : List V}, SqX t H l zs → l ≠ TO := fun {l zs} p e => by rw [SqX, e, nO] at p; cases p
    have hT : s.TypeIs (.ref z) "zip" := ⟨_, hz, rfl⟩
    unfold pyNext
    refine wpAny_bind (wpAny_attempt (wpAny_callSpecial?_slot (name := Str.ofString "__next__") hT F.slot_zip_next (wpAny_call_entry F.slot_zip_next hT F.entry_zip_next
      (zip2_item D (farM_of f1 hz (far p1) h1 h2) (farM_of f2 hz (far p2) h1 h2) hz hI hO h1 h2 f1 f2 (x := v1) (y := v2) (by simpa using w1) (by simpa using w2)
        fun h' z1 O1 m1 m2 T1 s1 kk => wpAny_pure ⟨_, rfl, ?_⟩) (F.args_zip_next_1 _))))
    refine wpAny_letOwnedTupleGo_zip z1 fun h4 z4 sb => ?_
    have fT : FpOk X pins H s.heap.objs.size := I.fpOk (Nat.le_refl _) (I.hok.fresh (Nat.le_refl _))
    have k2 : ∀ d o, d ∉ [z, TI, TO, i1, i2] → s.heap.get? d = some o → h4.get? d = some o := fun d o hb e => by
      simp only [List.mem_cons, List.mem_nil_iff, or_false, not_or] at hb
      obtain ⟨q1, q2, q3, q4, q5⟩ := hb
      exact (sb.2 d q1).trans (kk d o q1 q3 q4 q5 e)
    have I1 : Inv X pins σ H { s with heap := h4, toks := s.toks } := I.turnedL (ch := [z, TI, TO, i1, i2]) k2 hf
    have eT : h4.get? s.heap.objs.size = some { cls := .type "tuple", data := .seq #[v1, v2] } := (sb.2 _ (Nat.ne_of_gt (Heap.lt_size hz))).trans T1
    have I2 := I1.track (o := .tup [x, y]) fT (Nat.le_trans I.sz (Nat.le_refl _)) (tup2_ok rx ry eT)
    refine ⟨.ref s.heap.objs.size, _, I2, rfl, ⟨_, x, y, fT.1, rfl, rfl, fun ys hy => by rw [sqx_inj hy p1]; exact e1, fun ys hy => by rw [sqx_inj hy p2]; exact e2⟩,
      ⟨z4, (sb.2 _ TIz).trans (kk _ _ TIz TITO TI1 TI2 hI), ⟨_, _, sb.extBut _ _ D.oz O1⟩, m1.at fun o e => sb.extBut _ _ D.az e, m2.at fun o e => sb.extBut _ _ D.bz e⟩, fun d hb => ?_⟩
    have hlt : d < s.heap.objs.size := by
      obtain ⟨_, g1, _⟩ := h1
      obtain ⟨_, g2, _⟩ := h2
      simp only [List.mem_cons, List.mem_nil_iff, or_false] at hb
      rcases hb with rfl | rfl | rfl | rfl | rfl
      · exact Heap.lt_size hz
      · exact Heap.lt_size hI
      · exact Heap.lt_size hO
      · exact Heap.lt_size g1
      · exact Heap.lt_size g2
    rw [upd_ne (Nat.ne_of_lt hlt)]
    exact (hf d hb).1
  done := by
    intro X hP hw hK hc i pins s σ H E I hf st hg
    subst hP hw hK
    obtain ⟨xs, p1, hx⟩ := hg
    obtain ⟨t1, r1, f1⟩ := I.sqx p1
    obtain ⟨hz, hI, ⟨a, b, hO⟩, h1, h2⟩ := st
    have nO : H TO = none := (hf TO (by simp)).1
    have far : l1 ≠ TO := fun e => by rw [SqX, e, nO] at p1; cases p1
    have hT : s.TypeIs (.ref z) "zip" := ⟨_, hz, rfl⟩
    have e1 := r1.length
    unfold pyNext
    refine wpAny_bind (wpAny_attempt (wpAny_callSpecial?_slot (name := Str.ofString "__next__") hT F.slot_zip_next (wpAny_call_entry F.slot_zip_next hT F.entry_zip_next
      (zip2_end (I.ok.hd hc) D (farM_of f1 hz far h1 h2) hz hI h1 f1 (by simp; omega) fun h' e kk he => ?_) (F.args_zip_next_1 _))))
    obtain ⟨o, ho, hcl⟩ := he
    refine wpAny_bind (wpAny_isInstance (T := "StopIteration") (b := true) ⟨o, ho, hcl⟩ isSubtype_stop ?_)
    refine wpAny_pure ⟨rfl, I.turnedL (t' := s.toks) (ch := [z, TI, TO, i1, i2]) (fun d o hb e => ?_) hf⟩
    simp only [List.mem_cons, List.mem_nil_iff, or_false, not_or] at hb
    exact kk d o hb.1 hb.2.2.2.1 e
  self := fun _ _ _ _ _ st h => wpAny_pyIter_zip st.1 h
def iZipX (ta : TA) : TI := fun σ H R => ta σ H fun vs H1 => ∃ t a b xs ys, vs = [.ref a, .ref b] ∧ SqX t H1 a xs ∧ SqX t H1 b ys ∧ R (Ity t a b) H1
theorem pi_zipX {X : Cx} {a b : Expr} {ta : TA} {p pos : Pos} {elts : List Expr} {kt : Nat} {tp : Pos} (hg : Gl X "zip") (hm : X.mg "zip" = none) (ha : PA X [a, b] ta) (hs : starEach [a, b] X.env = (false, eval a X.env) :: starEach [b] X.env := by rfl) (hs2 : (backTo pos (starEach [b] X.env)).any (·.1) = false := by rfl) :
    PI X (.Tuple elts kt tp) (.Call (.Name "zip" p) [a, b] [] pos) (iZipX ta) := by
  intro pins s σ H R I h
  refine Call_ (ld_blt I hg hm boot_zip (PyProof.Rows.callWith_type1 (thn (ha pos pins s σ H _ I h) fun us s1 ⟨vs, H1, I1, r1, q1⟩ => ?_) hs hs2))
  obtain ⟨t, l1, l2, xs, ys, e, p1, p2, q⟩ := q1
  subst e
  cases r1 with
  | cons ra rr => cases rr with
    | cons rb rr =>
      cases rr
      cases ra; cases rb
      obtain ⟨t1, v1, f1⟩ := I1.sqx p1
      obtain ⟨t2, v2, f2⟩ := I1.sqx p2
      refine call_zip2 f1 f2 fun h' n hn hz hI hO h1 h2 kk => ?_
      refine wpAny_pyIter_zip hz ?_
      have I2 : Inv X pins σ H1 { s1 with heap := h', toks := s1.toks } := I1.kept kk
      have ge : ∀ b, n ≤ b → FpOk X pins H1 b := fun b hb => I1.fpOk (by rw [← hn]; exact hb) (I1.hok.fresh (by rw [← hn]; exact hb))
      have ne : ∀ i j : Nat, i ≠ j → (n + i : Nat) ≠ n + j := fun i j h => by omega
      refine ⟨n + 4, [n + 4, n + 2, n + 3, n, n + 1], _, _, H1, rfl, I2, turn_zip2 t l1 l2 (n + 4) (n + 2) (n + 3) n (n + 1) ⟨ne 3 4 (by decide), ne 0 4 (by decide), ne 1 4 (by decide), ne 3 0 (by decide), ne 3 1 (by decide), ne 0 1 (by decide)⟩
        (ne 2 4 (by decide)) (ne 2 3 (by decide)) (ne 2 0 (by decide)) (ne 2 1 (by decide)), ⟨hz, hI, ⟨_, _, hO⟩, h1, h2⟩, fun b hb => ge b ?_, q⟩
      simp only [List.mem_cons, List.mem_nil_iff, or_false] at hb
      rcases hb with rfl | rfl | rfl | rfl | rfl
      · exact Nat.le_add_right _ _
      · exact Nat.le_add_right _ _
      · exact Nat.le_add_right _ _
      · exact Nat.le_refl _
      · exact Nat.le_add_right _ _
theorem comp_zipX {t : Bool} {g : TG} {tf : TT} {te : TE} {Q : List V → Hp → Prop} {σ : St} {H : Hp} {a b : Addr} {xs ys : List V} (Pv : Nat → List V → St → Hp → Prop) (he : xs.length = ys.length) (hn : xs.length ≤ sizeLine) (h0 : Pv 0 [] σ H) (hl : ∀ i rs σ H, i ≤ xs.length → Pv i rs σ H → SqX t H a xs ∧ SqX t H b ys ∧ rs.length ≤ i)
    (hs : ∀ i x y T rs σ H, xs[i]? = some x → ys[i]? = some y → H T = none → Pv i rs σ H → g (.ref T) σ (upd H T (.tup [x, y])) fun σ2 H2 => tf σ2 H2 fun b H3 => if b = true then te σ2 H3 fun y H4 => Pv (i + 1) (rs ++ [y]) σ2 H4 else Pv (i + 1) rs σ2 H3)
    (hd : ∀ rs σ H, Pv xs.length rs σ H → Q rs H) : CompW (Ity t a b) g tf te Q σ H := by
  refine ⟨fun i m rs σ H => m = xs.length - i ∧ i ≤ xs.length ∧ Pv i rs σ H, ⟨xs.length, by simp, Nat.zero_le _, h0⟩, ?_⟩
  rintro i m rs σ H ⟨rfl, hi, p⟩
  obtain ⟨q, q2, hz⟩ := hl i rs σ H hi p
  by_cases hlt : i < xs.length
  · refine .inr ⟨⟨xs, xs[i], ys, ys[i]'(by omega), q, q2, by simp [hlt], by simp [he ▸ hlt]⟩, by omega, Pv (i + 1), fun ys' σ' H' p' => ⟨xs.length - (i + 1), by omega, rfl, hlt, p'⟩, fun v H' y => ?_⟩
    obtain ⟨T, x, y', hT, rfl, rfl, y1, y2⟩ := y
    exact hs i x y' T rs σ _ (y1 xs q) (y2 ys q2) hT p
  · have e : i = xs.length := by omega
    exact .inl ⟨⟨xs, q, by omega⟩, by omega, hd rs σ H (e ▸ p)⟩
/-! ### isinstance, for any class that is built in -/
theorem call_isT (T : String) {X : Cx} {K : PySem.W.Frag} (hK : X.K = K) : CallR X (.builtin "isinstance") (fun xs H Q => ∃ x t b, xs = [x, .ty T] ∧ TyOf K H x t ∧ PySem.W.kitOne K t (.type T) = some b ∧ Q (.bl b) H) := by
  subst hK
  intro pins s σ H xs us Q I r h
  obtain ⟨x, t, b, rfl, ty, e, q⟩ := h
  obtain ⟨u, u2, rfl, rx, r2⟩ := vals2 r
  obtain rfl : u2 = Value.type T := r2
  exact isinst_ok I rx ty e fun tk => ⟨.bl b, H, I.tok _, rfl, q⟩
end L2

end

section
set_option Elab.async false
set_option linter.all false
set_option maxRecDepth 100000
set_option maxHeartbeats 4000000
namespace L2
open PySem PySem.Spec PyProof.Rows
section
variable {X : Cx} {K : PySem.W.Frag}
theorem pe_globI {x : Str} {n : Int} {pos : Pos} (hg : Gl X x) (h : ∃ t, X.mg x = some (.int n t)) (hd : (x == ("__debug__" : Str)) = false := by decide) : PE X (.Name x pos) (tC (.int n)) := by
  obtain ⟨t, h⟩ := h
  exact pe_glob hg h ⟨_, rfl⟩ hd
end
/-- how arguments come: by place with defaults behind; one by name; two by name, the other way round -/
def dP {α : Type} (ds us zs : List α) : List α := us ++ ds
theorem Vals.dP {ds : List V} {es : List Value} (d : Vals ds es) {vs zs : List V} {us ws : List Value} (g : Vals vs us) (h : Vals zs ws) : Vals (dP ds vs zs) (dP es us ws) := g.append d
def k1 {α : Type} (us zs : List α) : List α := match us, zs with
  | [a], [b] => [a, b]
  | _, _ => []
theorem Vals.k1 {vs zs : List V} {us ws : List Value} (g : Vals vs us) (h : Vals zs ws) : Vals (k1 vs zs) (k1 us ws) := by
  cases g with
  | nil => cases h <;> exact .nil
  | cons a r => cases r with
    | cons _ _ => cases h <;> exact .nil
    | nil => cases h with
      | nil => exact .nil
      | cons b r => cases r with
        | nil => exact .cons a (.cons b .nil)
        | cons _ _ => exact .nil
def k2s {α : Type} (us zs : List α) : List α := match us, zs with
  | [a], [b, c] => [a, c, b]
  | _, _ => []
theorem rl_str : RelV (.ty "str") (.type "str") := rfl
theorem rl_tuple : RelV (.ty "tuple") (.type "tuple") := rfl
theorem rl_list : RelV (.ty "list") (.type "list") := rfl
theorem bt_str : bootBuiltins "str" = some (.type "str") := by decide +kernel
theorem bt_tuple : bootBuiltins "tuple" = some (.type "tuple") := by decide +kernel
theorem bt_list : bootBuiltins "list" = some (.type "list") := by decide +kernel
end L2
namespace Cb
open PySem L2
structure Blt (mg : Str → Option Value) : Prop where
  len : mg "len" = none
  sum : mg "sum" = none
  all : mg "all" = none
  max : mg "max" = none
  min : mg "min" = none
  int : mg "int" = none
  bool : mg "bool" = none
  isinstance : mg "isinstance" = none
  range : mg "range" = none
  enumerate : mg "enumerate" = none
  zip : mg "zip" = none
  str : mg "str" = none
  tuple : mg "tuple" = none
  list : mg "list" = none
/-! ### bags -/
def BagAt (H : Hp) (p : Addr) (n : Nat) : Prop := ∃ a b c : Int, H p = some (.lst [.int a, .int b, .int c]) ∧ 0 ≤ a ∧ 0 ≤ b ∧ b < 2147483647 ∧ 0 ≤ c ∧ c ≤ n
theorem BagAt.mono {H : Hp} {p : Addr} {n m : Nat} (h : BagAt H p n) (hm : n ≤ m) : BagAt H p m := by
  obtain ⟨a, b, c, e, h1, h2, h3, h4, h5⟩ := h
  exact ⟨a, b, c, e, h1, h2, h3, h4, by omega⟩
theorem BagAt.same {H H' : Hp} {p : Addr} {n : Nat} (h : BagAt H p n) (s : Same H H') : BagAt H' p n := by
  obtain ⟨a, b, c, e, r⟩ := h
  exact ⟨a, b, c, s _ _ e, r⟩
theorem BagAt.ne {H : Hp} {p q : Addr} {n : Nat} (h : BagAt H p n) (e : H q = none) : q ≠ p := by
  obtain ⟨a, b, c, e', _⟩ := h
  exact fun z => by rw [z, e'] at e; cases e
def spBag : Sp := fun vs H Q _ => ∃ (s : Int) (k : Nat), vs = [.int s, .int (k : Int)] ∧ Builtin.Int.intBits s ≤ 2 ^ 20 ∧ k ≤ 63 ∧ ∀ (p : Addr) (H' : Hp), H p = none → BagAt H' p k → Same H H' → Q (.ref p) H'
def spDraw : Sp := fun vs H Q _ => ∃ (p : Addr) (m : Int) (n : Nat), vs = [.ref p, .int m] ∧ BagAt H p n ∧ n < 2 ^ 30 ∧ 0 < m ∧ m ≤ 2 ^ 32 ∧
  ∀ (r : Nat) (H' : Hp), (r : Int) < m → BagAt H' p (n + 1) → (∀ b, b ≠ p → H' b = H b) → Q (.int (r : Int)) H'
def spCellAt (K : PySem.W.Frag) : Sp := fun vs H Q _ => ∃ (a : Addr) (ns : List Int) (k : Nat), vs = [.ref a, .int (k : Int)] ∧ SqL K H a (ns.map V.int) ∧ (∀ m ∈ ns, Builtin.Int.intBits m ≤ 2 ^ 20) ∧ ∀ c : Int, Builtin.Int.intBits c ≤ 2 ^ 20 → Q (.int c) H
def spWord : Sp := fun vs H Q _ => ∃ (p : Addr) (n : Nat), vs = [.ref p] ∧ BagAt H p n ∧ n + 2 < 2 ^ 30 ∧ ∀ (r : Nat) (H' : Hp), r ≤ 255 → BagAt H' p (n + 2) → KeepP p H H' → Q (.int (r : Int)) H'
def spCells : Sp := fun vs H Q _ => ∃ (p : Addr) (n : Nat), vs = [.ref p] ∧ BagAt H p n ∧ n + 2 < 2 ^ 30 ∧ ∀ (r : Nat) (H' : Hp), 1 ≤ r → r ≤ 4096 → BagAt H' p (n + 2) → KeepP p H H' → Q (.int (r : Int)) H'
/-- _law_right's of these: a bag of few draws -/
def spRightB : Sp := fun vs H Q _ => ∃ p : Addr, vs = [.ref p] ∧ BagAt H p 64 ∧ ∀ H', KeepP p H H' → Q (.bl true) H'
/-! ### things alike -/
inductive Lk (H : Hp) : Nat → V → V → Prop where
  | int {n : Nat} (i : Int) : Lk H n (.int i) (.int i)
  | seq {n : Nat} {t : Bool} {a b : Addr} {xs ys : List V} (ha : SqX t H a xs) (hb : SqX t H b ys) (hl : xs.length = ys.length) (hz : xs.length ≤ sizeLine) (h : ∀ (i : Nat) (x y : V), xs[i]? = some x → ys[i]? = some y → Lk H n x y) : Lk H (n + 1) (.ref a) (.ref b)
theorem Lk.same {H H' : Hp} {n : Nat} {v w : V} (h : Lk H n v w) (s : Same H H') : Lk H' n v w := by
  induction h with
  | int i => exact .int i
  | seq ha hb hl hz _ ih => exact .seq (s _ _ ha) (s _ _ hb) hl hz ih
def spAlike (n : Nat) : Sp := fun vs H Q _ => ∃ v w, vs = [v, w] ∧ Lk H n v w ∧ ∀ H', Same H H' → Q (.bl true) H'
/-! ### chips -/
def NN (ext : List (Str × V)) : Prop := ext = [] ∨ ∃ r : Int, ext = [(("room" : Str), V.int r)]
structure Ob (C : Addr) (H : Hp) (a p : Addr) (ws : List V) (ext : List (Str × V)) : Prop where
  ex : ∃ dx hd, H a = some (.ins C dx (("head", .str hd) :: ("held", .ref p) :: ext))
  ls : H p = some (.lst ws)
  nn : NN ext
theorem Ob.at {C : Addr} {H H' : Hp} {a p : Addr} {ws : List V} {ext : List (Str × V)} (o : Ob C H a p ws ext) (h1 : ∀ u, H a = some u → H' a = some u) (h2 : ∀ u, H p = some u → H' p = some u) : Ob C H' a p ws ext := by
  obtain ⟨⟨dx, hd, e⟩, l, n⟩ := o
  exact ⟨⟨dx, hd, h1 _ e⟩, h2 _ l, n⟩
structure ClsOk (K : PySem.W.Frag) (C : Addr) : Prop where
  cl : Cls K C
  head : NoAttr K C "head"
  held : NoAttr K C "held"
  room : NoAttr K C "room"
def spIsNum : Sp := fun vs H Q _ => ∃ a b : Int, vs = [.int a, .int b] ∧ Q (.bl (decide (0 ≤ a ∧ a ≤ b))) H
def spIsWord : Sp := fun vs H Q _ => ∃ a : Int, vs = [.int a] ∧ Q (.bl (decide (0 ≤ a ∧ a ≤ 255))) H
def spChkWord : Sp := fun vs H Q _ => ∃ a : Int, vs = [.int a] ∧ 0 ≤ a ∧ a ≤ 255 ∧ Q .non H
def spLen (C : Addr) (L : List V → Nat) : Sp := fun vs H Q _ => ∃ a p ws ext, vs = [.ref a] ∧ Ob C H a p ws ext ∧ Q (.int (L ws : Int)) H
def spChkC (C : Addr) (L : List V → Nat) : Sp := fun vs H Q _ => ∃ a p ws ext, ∃ c : Int, vs = [.ref a, .int c] ∧ Ob C H a p ws ext ∧ 0 ≤ c ∧ c < L ws ∧ L ws ≤ 5000 ∧ Q .non H
def spChkW (C : Addr) (L : List V → Nat) : Sp := fun vs H Q _ => ∃ a p ws ext, ∃ c v : Int, vs = [.ref a, .int c, .int v] ∧ Ob C H a p ws ext ∧ 0 ≤ c ∧ c < L ws ∧ L ws ≤ 5000 ∧ 0 ≤ v ∧ v ≤ 255 ∧ Q .non H
def spLook (C : Addr) : Sp := fun vs H Q _ => ∃ a p ws ext, ∃ (c : Nat) (x : V), vs = [.ref a, .int (c : Int)] ∧ Ob C H a p ws ext ∧ ws.length ≤ 5000 ∧ ws[c]? = some x ∧ Q x H
def spWrite (C : Addr) : Sp := fun vs H Q _ => ∃ a p ws ext, ∃ (c : Nat) (v : Int), vs = [.ref a, .int (c : Int), .int v] ∧ Ob C H a p ws ext ∧ ws.length ≤ 5000 ∧ c < ws.length ∧ 0 ≤ v ∧ v ≤ 255 ∧ Q .non (upd H p (.lst (ws.set c (.int v))))
def spFixW (C : Addr) : Sp := fun vs H Q _ => ∃ a p ws ext, ∃ (c : Nat) (v : Int), vs = [.ref a, .int (c : Int), .int v] ∧ Ob C H a p ws ext ∧ ws.length ≤ 5000 ∧ c < ws.length ∧ 0 ≤ v ∧ v ≤ 255 ∧ Q .non H
def spState (C : Addr) : Sp := fun vs H Q _ => ∃ a p ws ext, vs = [.ref a] ∧ Ob C H a p ws ext ∧ ∀ q, H q = none → Q (.ref q) (upd H q (.tup ws))
def spMetR (C : Addr) : Sp := fun vs H Q _ => ∃ a p ext, ∃ v : Int, vs = [.ref a, .int 0] ∧ Ob C H a p [.int v] ext ∧ Q (.int v) (upd H p (.lst [.int ((v + 1) % 256)]))
def spInit (K : PySem.W.Frag) : Sp := fun vs H Q _ => ∃ a C dx p hd, vs = [.ref a, .str hd, .ref p] ∧ H a = some (.ins C dx []) ∧ ClsOk K C ∧ ∀ H', H' a = some (.ins C dx [("head", .str hd), ("held", .ref p)]) → (∀ b, b ≠ a → H' b = H b) → Q .non H'
/-- a new chip of plain words -/
def NewOb (C : Addr) (H : Hp) (a : Addr) (ws : List V) (Q : VK) : Prop := ∀ (p : Addr) (H' : Hp), H p = none → Ob C H' a p ws [] → KeepP a H H' → Q .non H'
def spMk1 (C : Addr) : Sp := fun vs H Q _ => ∃ a dx, ∃ v : Int, vs = [.ref a, .int v] ∧ 0 ≤ v ∧ v ≤ 255 ∧ H a = some (.ins C dx []) ∧ NewOb C H a [.int v] Q
def spMkS (C : Addr) : Sp := fun vs H Q _ => ∃ a dx, ∃ (n : Nat) (v : Int), vs = [.ref a, .int (n : Int), .int v] ∧ 1 ≤ n ∧ n ≤ 4096 ∧ 0 ≤ v ∧ v ≤ 255 ∧ H a = some (.ins C dx []) ∧ NewOb C H a (List.replicate n (.int v)) Q
def spMkF (C : Addr) : Sp := fun vs H Q _ => ∃ a dx l, ∃ ws : List Nat, vs = [.ref a, .ref l] ∧ H l = some (.lst (vN ws)) ∧ 1 ≤ ws.length ∧ ws.length ≤ 4096 ∧ (∀ w ∈ ws, w ≤ 255) ∧ H a = some (.ins C dx []) ∧ NewOb C H a (vN ws) Q
end Cb

end

section
set_option Elab.async false
set_option linter.all false
set_option maxRecDepth 100000
set_option maxHeartbeats 4000000
namespace L2
open PySem PySem.Spec PyProof.Rows PySem.SeqAt
section
variable {X : Cx} {K : PySem.W.Frag}
/-! ### f"..{v}", v a text -/
def tFs2 (ta tb : TE) : TE := fun σ H Q => ta σ H fun x H1 => ∃ a : Str, x = .str a ∧ a.length ≤ 1000 ∧ tb σ H1 fun y H2 => ∃ b : Str, y = .str b ∧ b.length ≤ 1000 ∧ Q (.str (Str.empty ++ a ++ b)) H2
/-! ### two lists of ints compared -/
def rEqL (K : PySem.W.Frag) (neg : Bool) : R2 := fun x y H Q => ∃ a b, ∃ ns ms : List Int, x = .ref a ∧ y = .ref b ∧ SqL K H a (ns.map V.int) ∧ SqL K H b (ms.map V.int) ∧ Q (.bl (neg != decide (ns = ms))) H
end
end L2

end

section
set_option Elab.async false
set_option linter.all false
set_option maxRecDepth 100000
set_option maxHeartbeats 4000000
namespace L2
open PySem PySem.Spec PyProof.Rows Builtin
/-! ### two own objects of one class compared, by the class's own __eq__ -/
section
variable {prog : Program} {w : World} {A : Around} {E : Value → Shared → Prop} {s : Shared} {K : PySem.W.Frag} {x y C f : Addr} {ox oy : Obj} {od oe : Option Obj}
/-- what __eq__ told: a truth -/
def BoolIs (Q : Bool → Shared → Prop) : Value → Shared → Prop
  | .bool b, s' => Q b s'
  | _, _ => False
end
structure NeOk (K : PySem.W.Frag) (C : Addr) : Prop where
  ne : PySem.W.findIn K (.ref C) "__ne__" = some (some (.builtin "object.__ne__"))
  ob : PySem.W.subIn K (.ref C) (.type "object") = some true
def rCmpO (P : Program) (w : World) (K : PySem.W.Frag) (mg : Str → Option Value) (base : Heap) (k : Nat) (neg : Bool) : R2 := fun x y H Q => ∃ a b C dx fs dy gs gV sp, x = .ref a ∧ y = .ref b ∧ H a = some (.ins C dx fs) ∧ H b = some (.ins C dy gs) ∧ Mth P w K mg base k C "__eq__" [] gV sp ∧ (neg = true → NeOk K C) ∧
  sp (gV [x, y] []) H (fun v H2 => ∃ c, v = .bl c ∧ Q (.bl (neg != c)) H2) E0
section
variable {X : Cx}
end
end L2

end

section
set_option Elab.async false
set_option linter.all false
set_option maxRecDepth 100000
set_option maxHeartbeats 4000000
namespace L2
open PySem PySem.Spec PyProof.Rows
/-! ### del xs[:1] -/
section
variable {prog : Program} {w : World} {A : Around} {E : Value → Shared → Prop} {s : Shared}
end
section
variable {X : Cx} {o : Expr} {td : TE} {pos p1 p2 p3 : Pos} {k0 : Nat}
def sDel1 (td : TE) : TS := fun D σ H => td σ H fun x H1 => ∃ a xs, x = .ref a ∧ H1 a = some (.lst xs) ∧ D.nx σ (upd H1 a (.lst (xs.drop 1)))
end
section
variable {X : Cx} {K : PySem.W.Frag}
theorem pe_globS {x : Str} {z : Str} {pos : Pos} (hg : Gl X x) (h : ∃ t, X.mg x = some (.str z t)) (hd : (x == ("__debug__" : Str)) = false := by decide) : PE X (.Name x pos) (tC (.str z)) := by
  obtain ⟨t, h⟩ := h
  exact pe_glob hg h ⟨_, rfl⟩ hd
/-- what isinstance asks of an own class -/
structure TyC (K : PySem.W.Frag) (C D : Addr) : Prop where
  c1 : PySem.W.findIn K (.ref C) "__class__" = some (some (.builtin "object.__class__"))
  c2 : PySem.W.specialIn K (.builtin "object.__class__") "__get__" = some (some (.builtin "getset_descriptor.__get__"))
  c3 : PySem.W.takesIn K (.builtin "object.__class__") = some true
  c4 : PySem.W.mroIn K C (.type "object") = some true
  c5 : PySem.W.kitOne K (.ref C) (.ref D) = some true
end
end L2

end

section
set_option Elab.async false
set_option linter.all false
set_option maxRecDepth 100000
set_option maxHeartbeats 4000000
namespace L2
open PySem PySem.Spec PyProof.Rows HT PySem.SeqAt
/-! ### tuples: the whole slice, () + t, t[::-1], t != () -/
section
section
variable {prog : Program} {w : World} {A : Around} {E : Value → Shared → Prop} {s : Shared}
end
end
section
variable {X : Cx} {K : PySem.W.Frag}
/-- t[lo:hi]: a tuple of these items, it itself where it is the whole -/
def rSlT2 (K : PySem.W.Frag) : V → Option Int → Option Int → Hp → VK → Prop := fun x lo hi H Q => ∃ a xs, x = .ref a ∧ SqT K H a xs ∧ (cutV xs lo hi = xs → Q (.ref a) H) ∧ ∀ p, H p = none → Q (.ref p) (upd H p (.tup (cutV xs lo hi)))
/-- t + u -/
def rCatT2 (K : PySem.W.Frag) : R2 := fun x y H Q => ∃ a b xs ys, x = .ref a ∧ y = .ref b ∧ SqT K H a xs ∧ SqT K H b ys ∧ xs.length + ys.length ≤ sizeLine ∧
  (xs = [] → Q (.ref b) H) ∧ (ys = [] → Q (.ref a) H) ∧ (∀ p, H p = none → Q (.ref p) (upd H p (.tup (xs ++ ys))))
def tRevT (K : PySem.W.Frag) (te : TE) : TE := fun σ H Q => te σ H fun x H1 => ∃ a xs, x = .ref a ∧ SqT K H1 a xs ∧ ∀ p, H1 p = none → Q (.ref p) (upd H1 p (.tup xs.reverse))
/-- t != () -/
def rNeT0 (K : PySem.W.Frag) : R2 := fun x y H Q => ∃ a b xs, x = .ref a ∧ y = .ref b ∧ SqT K H a xs ∧ SqT K H b [] ∧ Q (.bl (!xs.isEmpty)) H
/-- xs != [] -/
def rNeL0 (K : PySem.W.Frag) : R2 := fun x y H Q => ∃ a b xs, x = .ref a ∧ y = .ref b ∧ SqL K H a xs ∧ SqL K H b [] ∧ Q (.bl (!xs.isEmpty)) H
theorem op_neL0 (hu : X.A.units < cLine) (hK : X.K = K) : OpR X (compareOp .NotEq) (rNeL0 K) := by
  subst hK
  rintro pins s σ H x y v u Q I rx ry ⟨a, b, xs, rfl, rfl, ha, hb, q⟩
  cases rx; cases ry
  obtain ⟨its, r1, p1, _⟩ := I.list ha
  obtain ⟨its2, r2, p2, _⟩ := I.list hb
  obtain rfl := r2.nil_iff.mpr rfl
  have e : its.toArray.size = xs.length := by rw [List.size_toArray]; exact r1.length.symm
  cases xs with
  | nil =>
    refine RcNeAt.lists (e := fun _ => true) p1.isList p2.isList (by rw [e]; rfl) hu (fun j h1 h2 => absurd h2 (by simp)) _ _ _ _ ⟨.bl false, H, I, ?_, q⟩
    rw [e]; rfl
  | cons z zs => exact RcNeAt.lists_lengths p1.isList p2.isList (by rw [e]; exact bne_iff_ne.mpr (by simp)) hu _ _ _ _ ⟨.bl true, H, I, rfl, q⟩
end
end L2

end

section
set_option Elab.async false
set_option linter.all false
set_option maxRecDepth 100000
set_option maxHeartbeats 4000000
namespace L2
open PySem PySem.Spec PyProof.Rows HT
/-! ### an exception's way: which objects it changes -/
/-- but for what stands at ch, and for the slots of what stands at fs, all is as it was -/
def Slid (fs ch : List Addr) (h h' : Heap) : Prop := ∀ b o, h.get? b = some o → b ∉ ch → (b ∉ fs → h'.get? b = some o) ∧ ∃ sl, h'.get? b = some { o with slots := sl }
theorem Slid.of {fs ch : List Addr} {h h' : Heap} (k : ∀ b o, h.get? b = some o → b ∉ ch → h'.get? b = some o) : Slid fs ch h h' := fun b o e hc => ⟨fun _ => k b o e hc, o.slots, k b o e hc⟩
theorem Slid.trans {fs ch : List Addr} {h1 h2 h3 : Heap} (x : Slid fs ch h1 h2) (y : Slid fs ch h2 h3) : Slid fs ch h1 h3 := fun b o e hc => by
  obtain ⟨x1, sl, x2⟩ := x b o e hc
  refine ⟨fun hf => (y b o (x1 hf) hc).1 hf, ?_⟩
  obtain ⟨_, sl2, y2⟩ := y b _ x2 hc
  exact ⟨sl2, y2⟩
theorem Slid.mono {fs fs' ch ch' : List Addr} {h h' : Heap} (x : Slid fs ch h h') (hf : ∀ b ∈ fs, b ∈ fs') (hc : ∀ b ∈ ch, b ∈ ch') : Slid fs' ch' h h' := fun b o e n => ⟨fun z => (x b o e fun q => n (hc b q)).1 fun q => z (hf b q), (x b o e fun q => n (hc b q)).2⟩
/-- an exception of the class cls at e, the first entry of its way at T -/
def XAt (h : Heap) (e T : Addr) (cls fl : Value) : Prop := ∃ oe vs oT ts, h.get? e = some oe ∧ (oe.cls = cls ∧ oe.dict = none) ∧ oe.data = .fields vs ∧ vs[1]? = some (.ref T) ∧ T ≠ e ∧ h.get? T = some oT ∧ oT.data = .fields ts ∧ ts[3]? = some fl
section
variable {M : Model} {A : Around} {E : Value → Shared → Prop} {s : Shared}
theorem dict_mapFields (f : Array Value → Array Value) (o : Obj) : (Obj.mapFields f o).dict = o.dict := by
  obtain ⟨c, d, dt, sl⟩ := o
  cases dt <;> rfl
theorem x_entry {base : Heap} {env : Env} {outer : List Env} {L e : Addr} {oe : Obj} {vs : Array Value} {head : Value} {hadNext : Bool} {Q : Unit → Shared → Prop}
    (hfr : A.frames = some (env :: outer)) (hl : s.heap.FunFrames base (env :: outer)) (hf : env.frame = some L)
    (he : s.heap.get? e = some oe) (hd : oe.data = .fields vs) (hdn : oe.dict = none) (hsz : 1 < vs.size)
    (h : ∀ h' T, s.heap.get? T = none → Slid ((env :: outer).filterMap (·.frame)) [e] s.heap h' → XAt h' e T oe.cls (rawInt L) → Q () { s with heap := h' }) :
    wpAny M A (do let a ← frameOf env; let pl ← entryPlaceOf L hadNext; let b ← EntryCells.newEntry head a .none (rawInt L) .none pl; setField (.ref e) 1 b) Q E s := by
  have hene : e ∉ (env :: outer).filterMap (·.frame) := fun hm => by
    obtain ⟨_, o, ho, hnf⟩ := hl.mem hm
    rw [he] at ho; injection ho with ho; subst ho; exact hnf vs hd
  refine wpAny_bind (wpAny_frameOf_fun hfr hl hf fun h₁ hs₁ => ?_)
  refine wpAny_bind (wpAny_entryPlaceOf fun pl hpl => ?_)
  unfold EntryCells.newEntry newFields
  refine wpAny_bind (wpAny_newObj_type ?_ (hpl.sizeOk5 _ _ _ _ _))
  have he₁ : h₁.get? e = some oe := (hs₁.2.1 e hene).trans he
  have he₂ := Heap.get?_push_of_some (h := h₁) { cls := .type "traceback", dict := none, data := .fields ([head, .ref L, .none, rawInt L, .none] ++ (if pl.isEmpty then List.replicate 6 Value.none else pl)).toArray } he₁
  refine wpAny_setField he₂ hd hsz (h _ h₁.objs.size ?_ ?_ ?_)
  · rw [hs₁.1]; exact Heap.get?_none_of_le (Nat.le_refl _)
  · intro b o hb hc
    have hbe : b ≠ e := fun z => hc (by rw [z]; exact List.mem_singleton_self _)
    have keep : ∀ o', h₁.get? b = some o' →
        ((h₁.push { cls := .type "traceback", dict := none, data := .fields ([head, .ref L, .none, rawInt L, .none] ++ (if pl.isEmpty then List.replicate 6 Value.none else pl)).toArray }).update e (Obj.mapFields (·.setIfInBounds 1 (Value.ref h₁.objs.size)))).get? b = some o' := fun o' hb => by
      rw [Heap.get?_update_other _ _ (Ne.symm hbe)]
      exact Heap.get?_push_of_some _ hb
    refine ⟨fun hn => keep o ((hs₁.2.1 b hn).trans hb), ?_⟩
    obtain ⟨sl, hs⟩ := hs₁.2.2 b o hb
    exact ⟨sl, keep _ hs⟩
  · have hTe : h₁.objs.size ≠ e := Nat.ne_of_gt (Heap.lt_size he₁)
    have hd₃ := Obj.data_mapFields hd (·.setIfInBounds 1 (Value.ref h₁.objs.size))
    have he₃ := Heap.get?_update_self (Obj.mapFields (·.setIfInBounds 1 (Value.ref h₁.objs.size))) he₂ (Obj.isFreed_of_fields hd₃)
    have hT₃ := (Heap.get?_update_other (h₁.push { cls := .type "traceback", dict := none, data := .fields ([head, .ref L, .none, rawInt L, .none] ++ (if pl.isEmpty then List.replicate 6 Value.none else pl)).toArray })
      (Obj.mapFields (·.setIfInBounds 1 (Value.ref h₁.objs.size))) (Ne.symm hTe)).trans (Heap.get?_push_size h₁ rfl)
    exact ⟨_, _, _, _, he₃, ⟨Obj.cls_mapFields _ _, by rw [dict_mapFields]; exact hdn⟩, hd₃, by simp [hsz], hTe, hT₃, rfl, by first | (simp; done) | (rcases hpl with rfl | ⟨_, _, _, _, _, _, _, rfl⟩ <;> simp)⟩
/-- the frame is noted for the first time -/
theorem x_note_first {base : Heap} {env : Env} {outer : List Env} {L e : Addr} {oe : Obj} {vs : Array Value} {Q : Unit → Shared → Prop} (hfr : A.frames = some (env :: outer)) (hl : s.heap.FunFrames base (env :: outer)) (hf : env.frame = some L)
    (he : s.heap.get? e = some oe) (hd : oe.data = .fields vs) (hdn : oe.dict = none) (h1 : vs[1]? = some .none)
    (h : ∀ h' T, s.heap.get? T = none → Slid ((env :: outer).filterMap (·.frame)) [e] s.heap h' → XAt h' e T oe.cls (rawInt L) → Q () { s with heap := h' }) : wpAny M A (noteFrame (.ref e) env) Q E s := by
  unfold noteFrame
  simp only [hf]
  refine wpAny_bind (wpAny_field he hd h1 ?_)
  rw [if_neg (by decide)]
  exact x_entry hfr hl hf he hd hdn (Array.getElem?_eq_some_iff.mp h1).1 h
theorem x_note_next {base : Heap} {env : Env} {outer : List Env} {L e T : Addr} {cls : Value} {Q : Unit → Shared → Prop} (hfr : A.frames = some (env :: outer)) (hl : s.heap.FunFrames base (env :: outer)) (hf : env.frame = some L)
    (x : XAt s.heap e T cls .none)
    (h : ∀ h' T', s.heap.get? T' = none → Slid ((env :: outer).filterMap (·.frame)) [e, T] s.heap h' → XAt h' e T' cls (rawInt L) → Q () { s with heap := h' }) : wpAny M A (noteFrame (.ref e) env) Q E s := by
  obtain ⟨oe, vs, oT, ts, he, ⟨hcls, hdn⟩, hd, h1, hTe, hT, hdT, h3⟩ := x
  subst hcls
  unfold noteFrame
  simp only [hf]
  refine wpAny_bind (wpAny_field he hd h1 ?_)
  rw [if_pos (show (Value.ref T != Value.none) = true from by simp)]
  refine wpAny_bind (wpAny_field hT hdT h3 ?_)
  rw [if_neg (show ¬ ((Value.none == rawInt L) = true) from by simp [rawInt])]
  refine wpAny_bind (wpAny_setField hT hdT (Array.getElem?_eq_some_iff.mp h3).1 ?_)
  have other : ∀ b, b ≠ T → (s.heap.update T (Obj.mapFields (·.setIfInBounds 3 Value.none))).get? b = s.heap.get? b := fun b hb => Heap.get?_update_other _ _ (Ne.symm hb)
  have noRecord : ∀ b o, s.heap.get? b = some o → (∀ vs, o.data ≠ .fields vs) → b ≠ T := fun b o hb hnf q => by
    rw [q, hT] at hb; injection hb with hb; subst hb; exact hnf ts hdT
  refine x_entry hfr (hl.of_keeps fun b o hb hnf => ⟨o, (other b (noRecord b o hb hnf)).trans hb, rfl⟩) hf ((other e (Ne.symm hTe)).trans he) hd hdn (Array.getElem?_eq_some_iff.mp h1).1 fun h' T' fT sl x' => h h' T' ?_ ?_ x'
  · by_cases z : T' = T
    · have hd' := Obj.data_mapFields hdT (·.setIfInBounds 3 Value.none)
      have q := Heap.get?_update_self (Obj.mapFields (·.setIfInBounds 3 Value.none)) hT (Obj.isFreed_of_fields hd')
      rw [z, q] at fT; cases fT
    · exact (other T' z).symm.trans fT
  · refine Slid.trans (Slid.of fun b o e hc => (other b fun z => hc (by rw [z]; simp)).trans e) (sl.mono (fun _ z => z) fun b z => by rw [List.mem_singleton.mp z]; simp)
theorem x_flight {e T : Addr} {cls fl : Value} {Q : Unit → Shared → Prop} (x : XAt s.heap e T cls fl) (h : ∀ h', Slid [] [T] s.heap h' → XAt h' e T cls .none → Q () { s with heap := h' }) : wpAny M A (setFlight (.ref e) none) Q E s := by
  obtain ⟨oe, vs, oT, ts, he, hcls, hd, h1, hTe, hT, hdT, h3⟩ := x
  have hsz := (Array.getElem?_eq_some_iff.mp h3).1
  refine wpAny_setFlight_none he hd h1 hT hdT hsz (h _ ?_ ?_)
  · exact Slid.of fun b o e hc => (Heap.get?_update_other _ _ fun z => hc (by rw [z]; exact List.mem_singleton_self _)).trans e
  · have hd' := Obj.data_mapFields hdT (·.setIfInBounds 3 Value.none)
    have q := Heap.get?_update_self (Obj.mapFields (·.setIfInBounds 3 Value.none)) hT (Obj.isFreed_of_fields hd')
    exact ⟨oe, vs, _, _, (Heap.get?_update_other _ _ hTe).trans he, hcls, hd, h1, hTe, q, hd', by simp [hsz]⟩
theorem x_leave_first {base : Heap} {env : Env} {outer : List Env} {L e : Addr} {oe : Obj} {vs : Array Value} {Q : Unit → Shared → Prop} (hfr : A.frames = some (env :: outer)) (hl : s.heap.FunFrames base (env :: outer)) (hf : env.frame = some L)
    (he : s.heap.get? e = some oe) (hd : oe.data = .fields vs) (hdn : oe.dict = none) (h1 : vs[1]? = some .none)
    (h : ∀ h' T, s.heap.get? T = none → Slid ((env :: outer).filterMap (·.frame)) [e] s.heap h' → XAt h' e T oe.cls .none → Q () { s with heap := h' }) : wpAny M A (leaving env (.ref e)) Q E s := by
  unfold leaving
  refine wpAny_bind (x_note_first hfr hl hf he hd hdn h1 fun h' T fT sl x => x_flight x fun h'' sl2 x2 => h h'' T fT ?_ x2)
  intro b o e hc
  obtain ⟨s1, t1, s2⟩ := sl b o e hc
  have nT : b ∉ [T] := fun z => by rw [List.mem_singleton.mp z, fT] at e; cases e
  refine ⟨fun hn => (sl2 b o (s1 hn) nT).1 (by simp), ?_⟩
  exact (sl2 b _ s2 nT).2
end
end L2

end

section
set_option Elab.async false
set_option linter.all false
set_option maxRecDepth 100000
set_option maxHeartbeats 4000000
namespace L2
open PySem PySem.Spec PyProof.Rows HT
section
variable {P : Program} {w : World} {H H' : Hp} {h h' : Heap} {fs ch : List Addr}
theorem ObjOk.there {a : Addr} {o : HO} (x : ObjOk P w H h a o) : ∃ u, h.get? a = some u := by
  cases o with
  | lst xs => obtain ⟨_, _, _, _, e⟩ := x; exact ⟨_, e⟩
  | tup xs => obtain ⟨_, _, _, p⟩ := x; obtain ⟨o, e, _⟩ := p; exact ⟨_, e⟩
  | dK kvs => obtain ⟨_, _, _, _, o, _, _, e, _⟩ := x; exact ⟨_, e⟩
  | dT kvs => obtain ⟨_, _, _, _, o, _, _, e, _⟩ := x; exact ⟨_, e⟩
  | set S n => obtain ⟨o, _, _, _, e, _⟩ := x; exact ⟨_, e⟩
  | ins C dx fs => obtain ⟨_, _, _, e, _⟩ := x; exact ⟨_, e⟩
  | own y => obtain ⟨_, e⟩ := x; exact ⟨_, e⟩
  | xd fs => obtain ⟨_, ⟨_, _, _, e, _⟩, _⟩ := x; exact ⟨_, e⟩
  | rng lo hi => obtain ⟨_, _, _, e⟩ := x; exact ⟨_, e⟩
  | frz ob u => obtain ⟨e, _⟩ := x; exact ⟨_, e⟩
  | tbl ps => exact ⟨_, x⟩
  | met f y => exact ⟨_, x⟩
  | ext φ => obtain ⟨_, ⟨_, e⟩, _⟩ := x; exact ⟨_, e⟩
theorem HOk.none_of {a : Addr} (x : HOk P w H h) (e : h.get? a = none) : H a = none := by
  cases q : H a with
  | none => rfl
  | some o => obtain ⟨u, z⟩ := (x a o q).there; rw [e] at z; cases z
theorem HOk.slid (x : HOk P w H h) (sl : Slid fs ch h h') (hf : ∀ b ∈ fs, H b = none) (hc : ∀ b ∈ ch, H b = none) : HOk P w H h' := fun a o e => by
  refine (x a o e).stay (fun b u hb q => ?_) (fun _ z => z) (fun _ _ z => z)
  have hs : ∃ o', H b = some o' := by
    rcases hb with rfl | z
    · exact ⟨_, e⟩
    · exact ⟨_, z⟩
  obtain ⟨o', hs⟩ := hs
  exact (sl b u q fun z => by rw [hc b z] at hs; cases hs).1 fun z => by rw [hf b z] at hs; cases hs
end
section
variable {X : Cx} {pins : List (Addr × Obj)} {σ : St} {H : Hp} {s : Shared} {h' : Heap} {ch : List Addr}
/-- the frames' slots and what stands at ch have changed, ch being none of ours -/
theorem Inv.slid (I : Inv X pins σ H s) (sl : Slid (frs X.stack) ch s.heap h')
    (hc : ∀ b ∈ ch, H b = none ∧ X.s₀.heap.get? b = none ∧ b ≠ X.env.locals ∧ (∀ x c, X.env.cells.lookup x = some c → c ≠ b) ∧ ∀ p ∈ X.pn ++ pins, p.1 ≠ b) : Inv X pins σ H { s with heap := h' } := by
  have nch : ∀ b o, X.s₀.heap.get? b = some o → b ∉ ch := fun b o e z => by rw [(hc b z).2.1] at e; cases e
  have nst : ∀ b o, X.s₀.heap.get? b = some o → b ∉ X.fs → b ∉ frs X.stack := fun b o e hb z => by
    rcases List.mem_cons.mp (I.stkSub b z) with q | q
    · exact absurd q (Nat.ne_of_lt (Nat.lt_of_lt_of_le (Heap.lt_size e) I.ok.above))
    · exact hb q
  have slot : ∀ b o, s.heap.get? b = some o → b ∉ ch → ∃ sl, h'.get? b = some { o with slots := sl } := fun b o e n => (sl b o e n).2
  refine ⟨I.ok, I.os, I.bare, ⟨fun b o e n hb hx => ?_, fun b o e n hb hx => ?_, I.base.free, fun b o e hx => ?_, I.base.tups, I.base.frzs, I.base.tbls⟩, ?_, fun y c e => ?_, I.free, I.freeC, fun p hp => ?_, I.hok.slid sl (fun b hb => I.stkFree b hb) (fun b hb => (hc b hb).1), I.len⟩
  · exact (sl b o (I.base.keep b o e n hb hx) (nch b o e)).1 (nst b o e hb)
  · obtain ⟨t, e1⟩ := I.base.slot b o e n hb hx
    obtain ⟨t2, e2⟩ := slot b _ e1 (nch b o e)
    exact ⟨t2, e2⟩
  · obtain ⟨o', e1⟩ := I.base.there b o e hx
    obtain ⟨t2, e2⟩ := slot b _ e1 (nch b o e)
    exact ⟨_, e2⟩
  · obtain ⟨m, ⟨o, es, ep, ho, hd, r⟩, hl⟩ := I.loc
    obtain ⟨t, e1⟩ := slot _ _ ho fun z => (hc _ z).2.2.1 rfl
    refine ⟨m, ⟨_, es, ep, e1, hd, r⟩, fun i x v e2 e3 e4 => ?_⟩
    obtain ⟨u, ru, q⟩ := hl i x v e2 e3 e4
    refine ⟨u, ru, ?_⟩
    rcases q with q | ⟨k, c, e, oc, hoc, hod⟩
    · exact .inl q
    · obtain ⟨t2, e5⟩ := slot _ _ hoc fun z => (hc _ z).2.2.2.1 x c e rfl
      exact .inr ⟨k, c, e, _, e5, hod⟩
  · obtain ⟨v, oc, hoc, hod⟩ := I.cell y c e
    obtain ⟨t2, e5⟩ := slot _ _ hoc fun z => (hc _ z).2.2.2.1 y c e rfl
    exact ⟨v, _, e5, hod⟩
  · obtain ⟨e, n, ne, nf, d⟩ := I.pin p hp
    refine ⟨(sl p.1 p.2 e fun z => (hc _ z).2.2.2.2 p hp rfl).1 fun z => ?_, n, ne, nf, d⟩
    rcases List.mem_cons.mp (I.stkSub _ z) with q | q
    · exact ne q
    · exact nf q
/-- what is nowhere in the state is none of ours -/
theorem Inv.none_ours (I : Inv X pins σ H s) {b : Addr} (hb : s.heap.get? b = none) (hx : b ∉ X.ex) : X.s₀.heap.get? b = none ∧ b ≠ X.env.locals ∧ (∀ x c, X.env.cells.lookup x = some c → c ≠ b) ∧ ∀ p ∈ X.pn ++ pins, p.1 ≠ b := by
  refine ⟨?_, fun z => ?_, fun x c e z => ?_, fun p hp z => ?_⟩
  · cases q : X.s₀.heap.get? b with
    | none => rfl
    | some o => obtain ⟨o', e⟩ := I.base.there b o q hx; rw [e] at hb; cases hb
  · obtain ⟨m, ⟨o, es, ep, ho, _⟩, _⟩ := I.loc
    rw [← z, hb] at ho; cases ho
  · obtain ⟨v, oc, hoc, _⟩ := I.cell x c e
    rw [z, hb] at hoc; cases hoc
  · obtain ⟨e, _⟩ := I.pin p hp
    rw [z, hb] at e; cases e
end
/-! ### how an exception of an own class lies behind a call -/
def CX1 (P : Program) (w : World) : CXT := fun outer H s E e s' => ∃ ea T H' C, e = .ref ea ∧ s'.os = s.os ∧ AllBare s'.gens ∧ Un (frs outer) [] H H' s.heap s'.heap ∧ HOk P w H' s'.heap ∧ XAt s'.heap ea T (.ref C) .none ∧
  s.heap.get? ea = none ∧ s.heap.get? T = none ∧ H' ea = none ∧ H' T = none ∧ E (.ref C) none H'
/-- it has been made in the body of a def: it leaves -/
theorem x_leaves {P : Program} {w : World} {K : PySem.W.Frag} {mg : Str → Option Value} {base : Heap} {N : List Str} {qual : Str} {scope : Scope} {f : Addr} {cd : Value} {A : Around} {outer : List Env} {s : Shared} {H : Hp} {E : XK}
    {pins : List (Addr × Obj)} {σ : St} {H1 : Hp} {s2 : Shared} {h' : Heap} {e C : Addr} {vs : List Value} (I : Inv (cxOf (CX1 P w) P w K mg base N qual scope f cd A outer s H E) pins σ H1 s2) (m : Heap.MadeExcOf s2.heap h' e (.ref C) vs) (hE : E (.ref C) none H1) :
    (cxOf (CX1 P w) P w K mg base N qual scope f cd A outer s H E).xe (.ref e) { s2 with heap := h' } := by
  have I' : Inv (cxOf (CX1 P w) P w K mg base N qual scope f cd A outer s H E) pins σ H1 { s2 with heap := h' } := I.kept (t' := s2.toks) m.keeps
  obtain ⟨t, he, _, _⟩ := m.there
  have b1 := I.base
  refine x_leave_first I'.ok.frames I'.stack (L := s.heap.objs.size) rfl he rfl rfl rfl fun h'' T fT sl x => ?_
  have ne : ∀ b o, s.heap.get? b = some o → b ∉ [e] := fun b o q z => by
    obtain ⟨o', q'⟩ := b1.there b o q (by show b ∉ ([] : List Addr); simp)
    rw [List.mem_singleton.mp z, m.new] at q'; cases q'
  have nL : ∀ b o, s.heap.get? b = some o → b ∉ frs outer → b ∉ ((envOfC qual scope s.heap.objs.size f cd) :: outer).filterMap (·.frame) := fun b o q hb z => by
    rcases List.mem_cons.mp (show b ∈ s.heap.objs.size :: outer.filterMap (·.frame) from z) with r | r
    · exact absurd r (Nat.ne_of_lt (Heap.lt_size q))
    · exact hb r
  have kb : ∀ b o, s2.heap.get? b = some o → h'.get? b = some o := m.keeps
  refine ⟨e, T, H1, C, rfl, I.os, I.bare, ⟨fun b o q n hb _ => ?_, fun b o q n hb _ => ?_, fun b o q n _ => b1.free b o q n (by show b ∉ ([] : List Addr); simp), fun b o q _ => ?_, b1.tups, b1.frzs, b1.tbls⟩, ?_, x, ?_, ?_, ?_, ?_, hE⟩
  · exact (sl b o (kb _ _ (b1.keep b o q n hb (by show b ∉ ([] : List Addr); simp))) (ne b o q)).1 (nL b o q hb)
  · obtain ⟨t1, e1⟩ := b1.slot b o q n hb (by show b ∉ ([] : List Addr); simp)
    obtain ⟨t2, e2⟩ := (sl b _ (kb _ _ e1) (ne b o q)).2
    exact ⟨t2, e2⟩
  · obtain ⟨o', e1⟩ := b1.there b o q (by show b ∉ ([] : List Addr); simp)
    obtain ⟨t2, e2⟩ := (sl b _ (kb _ _ e1) (ne b o q)).2
    exact ⟨_, e2⟩
  · refine I'.hok.slid sl (fun b hb => I'.stkFree b hb) fun b hb => ?_
    rw [List.mem_singleton.mp hb]
    exact I.hok.none_of m.new
  · cases q : s.heap.get? e with
    | none => rfl
    | some o => exact absurd (List.mem_singleton_self e) (ne e o q)
  · cases q : s.heap.get? T with
    | none => rfl
    | some o =>
      obtain ⟨o', q'⟩ := b1.there T o q (by show T ∉ ([] : List Addr); simp)
      have := kb _ _ q'
      rw [show h'.get? T = none from fT] at this; cases this
  · exact I.hok.none_of m.new
  · exact I'.hok.none_of fT
end L2

end

section
set_option Elab.async false
set_option linter.all false
set_option maxRecDepth 100000
set_option maxHeartbeats 4000000
namespace L2
open PySem PySem.Spec PyProof.Rows HT
/-! ### an own class under ValueError, without an __init__ of its own -/
def NsK (K : PySem.W.Frag) (N : Addr) : Prop := ∃ c d es ep sl, K.lookup N = some ⟨c, d, .dict es ep, sl⟩ ∧ StrKeys es ∧ nsFind es "__init__" = none
def bmV : List Value := [.type "ValueError", .type "Exception", .type "BaseException", .type "object"]
inductive TailK (K : PySem.W.Frag) : List Value → Prop
  | base : TailK K bmV
  | own {A : Addr} {c0 : Value} {dd : Option Addr} {cd : ClassData} {sl : Array (Option Value)} {tl : List Value} : K.lookup A = some ⟨c0, dd, .cls cd, sl⟩ → NsK K cd.ns → TailK K tl → TailK K (.ref A :: tl)
structure ExcK (K : PySem.W.Frag) (C : Addr) : Prop where
  ex : ∃ nm q N bs bm hdct sn sub ab col dd k0 k1 k2 k3 k5, K.lookup C = some (excClassObj nm q C N bs bm hdct sn sub ab col dd k0 k1 k2 k3 k5 "ValueError.__new__") ∧ NsK K N ∧ TailK K bm
theorem NsK.ns {K : PySem.W.Frag} {N : Addr} {h : Heap} (x : NsK K N) (k : K.In h) : ∃ m, h.Ns N m ∧ m "__init__" = none := by
  obtain ⟨c, d, es, ep, sl, e, hs, hi⟩ := x
  exact ⟨nsFind es, ⟨_, es, ep, k _ _ e, rfl, hs, fun _ => rfl⟩, hi⟩
theorem TailK.tail {K : PySem.W.Frag} {bm : List Value} {h : Heap} (x : TailK K bm) (k : K.In h) : OwnTail h bmV bm := by
  induction x with
  | base => exact .base
  | own e n _ ih =>
    obtain ⟨m, hn, hi⟩ := n.ns k
    exact .own (k _ _ e) hn hi ih
section
variable {X : Cx} {x : Str} {C : Addr} {e : Expr} {te : TE} {np cpos pos : Pos} {R : Hp → Prop}
def one1 (R : Hp → Prop) : List V → Hp → Prop
  | [_], H => R H
  | _, _ => False
theorem one1_inv {R : Hp → Prop} {vs : List V} {H : Hp} (h : one1 R vs H) : ∃ v, vs = [v] ∧ R H := by
  match vs, h with
  | [v], h => exact ⟨v, rfl, h⟩
theorem ps_raiseO (hg : Gl X x) (hm : X.mg x = some (.ref C)) (hk : ExcK X.K C) (hc : X.calm = true) (he : PE X e te)
    (hx : ∀ (pins : List (Addr × Obj)) (σ : St) (H1 : Hp) (s2 : Shared) (h' : Heap) (ea : Addr) (vs : List Value), Inv X pins σ H1 s2 → Heap.MadeExcOf s2.heap h' ea (.ref C) vs → R H1 → X.xe (.ref ea) { s2 with heap := h' })
    (hd : (x == ("__debug__" : Str)) = false := by decide) (hst : starEach [e] X.env = (false, eval e X.env) :: starEach [] X.env := by rfl) (hpl : (backTo cpos (starEach [] X.env)).any (·.1) = false := by rfl) :
    PS X (.Raise (some (.Call (.Name x np) [e] [] cpos)) none pos) (fun _ σ H => te σ H fun _ H1 => R H1) := by
  intro pins s σ H D I h
  obtain ⟨nm, q, N, bs, bm, hdct, sn, sub, ab, col, dd, k0, k1, k2, k3, k5, hC, hN, hT⟩ := hk.ex
  obtain ⟨c, d, es, ep, sl, hNl, hNs, hi⟩ := hN
  have T := hT.tail I.kIn
  refine wpAny_Raise_call_subT (C := C) (nm := nm) (q := q) (N := N) (bs := bs) (bm := bm) (hdct := hdct) (sn := sn) (sub := sub) (ab := ab) (col := col) (dd := dd) (k0 := k0) (k1 := k1) (k2 := k2) (k3 := k3) (k5 := k5)
    PySem.F.excBase_ValueError (mN := nsFind es) (T.hasType PySem.F.excBase_ValueError.hasBase) (I.ok.hd hc) (by rw [hst]; show (false || (backTo cpos (starEach [] X.env)).any (·.1)) = false; rw [hpl]; rfl) hi (ld_glob I hg hm ⟨rfl, ?_⟩ hd)
  have h2 := (pa_cons (t := tNil) he pa_nil hst) cpos pins s σ H (one1 R) I h
  rw [hst] at h2 ⊢
  refine Calls.evalArgs_plain (thn h2 fun us s2 h3 => ?_)
  obtain ⟨vs, H1, I2, r, q1⟩ := h3
  obtain ⟨v, rfl, q1⟩ := one1_inv q1
  have hl : us.length = 1 := r.length.symm
  refine ⟨rfl, by show us.length ≤ sizeLine; rw [hl]; decide, I2.kIn _ _ hC, ⟨_, es, ep, I2.kIn _ _ hNl, rfl, hNs, fun _ => rfl⟩, hT.tail I2.kIn, fun h' ea hm' => hx pins σ H1 s2 h' ea us I2 hm' q1⟩
end
end L2

end

section
set_option Elab.async false
set_option linter.all false
set_option maxRecDepth 100000
set_option maxHeartbeats 4000000
namespace L2
open PySem PySem.Spec PyProof.Rows HT
/-! ### a def that may raise -/
theorem PS.nox {X : Cx} {st : Stmt} {t : TS} (h : PS X.nox st t) : PS X st t := fun pins s σ H D I hw =>
  wpAny_mono (h pins s σ H D (I.wish _) hw) (fun _ _ q => q.unwish) fun _ _ z => False.elim z
theorem Fun.okX {P : Program} {w : World} {K : PySem.W.Frag} {mg : Str → Option Value} {base : Heap} {x qual : Str} {st : Stmt} {f : Addr} {fd : FuncData} {N ps : List Str} {k : Nat} {sp : Sp} (F : Fun K x qual st f fd) (S : FnScope N ps (defScope st)) (len : ∀ vs H Q E, sp vs H Q E → vs.length = ps.length)
    (hbody : ∀ (cdv : Value) (A : Around) (outer : List Env) (s : Shared) (H : Hp) (vs : List V) (Q : VK) (E : XK), Room k (A.deeper (envOfC qual (defScope st) s.heap.objs.size f cdv)) → sp vs H Q E →
      ∃ t, PSs (cxOf (CX1 P w) P w K mg base N qual (defScope st) f cdv A outer s H E) (defBody st) t ∧ t { nx := fun _ H' => Q .non H', rt := Q } (start N vs) H) : FnOk P w K mg base (CX1 P w) (k + 1) f fd ps sp := by
  obtain ⟨oc, od, kV, doc, pm, an, cdv, ct, osl, rfl, lk, hcd⟩ := F.ex
  exact fn_of lk hcd S len fun A outer s H vs Q E hr hsp => hbody cdv A outer s H vs Q E hr hsp
structure CalX (P : Program) (w : World) (K : PySem.W.Frag) (mg : Str → Option Value) (base : Heap) (k : Nat) (x : Str) (ps : List Str) (sp : Sp) : Prop where
  ex : ∃ f fd, FnOk P w K mg base (CX1 P w) k f fd ps sp ∧ mg x = some (.ref f) ∧ PySem.W.keepIn K (.ref f) = true ∧ Binds K fd ps []
/-! ### within an except suite -/
abbrev Cx.marked (X : Cx) (e : Value) : Cx := { X with A := X.A.mark (some e), calm := false }
theorem Inv.marked {X : Cx} {pins : List (Addr × Obj)} {σ : St} {H : Hp} {s : Shared} (I : Inv X pins σ H s) (e : Value) : Inv (X.marked e) pins σ H s :=
  ⟨⟨I.ok.mod, I.ok.kind, I.ok.glob, I.ok.blt, I.ok.above, I.ok.inj, I.ok.has, I.ok.cab, (fun z => nomatch z), I.ok.frames, I.ok.stk, I.ok.exf, I.ok.bs, I.ok.bsz, I.ok.noex, I.ok.exfs, I.ok.funs, I.ok.frf⟩, I.os, I.bare, I.base, I.loc, I.cell, I.free, I.freeC, I.pin, I.hok, I.len⟩
theorem Inv.unmarked {X : Cx} {pins : List (Addr × Obj)} {σ : St} {H : Hp} {s : Shared} {e : Value} (hd : X.calm = true → X.A.handled = none) (I : Inv (X.marked e) pins σ H s) : Inv X pins σ H s :=
  ⟨⟨I.ok.mod, I.ok.kind, I.ok.glob, I.ok.blt, I.ok.above, I.ok.inj, I.ok.has, I.ok.cab, hd, I.ok.frames, I.ok.stk, I.ok.exf, I.ok.bs, I.ok.bsz, I.ok.noex, I.ok.exfs, I.ok.funs, I.ok.frf⟩, I.os, I.bare, I.base, I.loc, I.cell, I.free, I.freeC, I.pin, I.hok, I.len⟩
/-- an object of the class cls -/
def xIs (ea : Addr) (cls : Value) : Heap → Prop := fun h => ∃ o vs, h.get? ea = some o ∧ (o.cls = cls ∧ o.dict = none) ∧ o.data = .fields vs
section
variable {X : Cx} {pins : List (Addr × Obj)} {σ : St} {H : Hp} {s : Shared}
theorem Inv.trackX {ea : Addr} {cls : Value} (I : Inv X pins σ H s) (hn : H ea = none) (ho : xIs ea cls s.heap) (h : X.s₀.heap.get? ea = none ∧ ea ≠ X.env.locals ∧ (∀ x c, X.env.cells.lookup x = some c → c ≠ ea) ∧ ∀ p ∈ X.pn ++ pins, p.1 ≠ ea) : Inv X pins σ (upd H ea (.ext (xIs ea cls))) s := by
  have up : ∀ b o, H b = some o → upd H ea (.ext (xIs ea cls)) b = some o := fun b o e => by rw [upd_ne (fun z => by rw [z, hn] at e; cases e)]; exact e
  refine ⟨I.ok, I.os, I.bare, ⟨I.base.keep, I.base.slot, fun b o e n hx => ?_, I.base.there, fun b xs e => up _ _ (I.base.tups b xs e), fun b o u e => up _ _ (I.base.frzs b o u e), fun b ps e => ?_⟩, I.loc, I.cell, ?_, fun x c e => ?_, fun p hp => ?_, fun a o e => ?_, I.len⟩
  · rw [upd_ne (fun z => by rw [z, h.1] at e; cases e)]; exact I.base.free b o e n hx
  · obtain ⟨more, q⟩ := I.base.tbls b ps e
    exact ⟨more, up _ _ q⟩
  · rw [upd_ne (Ne.symm h.2.1)]; exact I.free
  · rw [upd_ne (h.2.2.1 x c e)]; exact I.freeC x c e
  · obtain ⟨e, n, r⟩ := I.pin p hp
    exact ⟨e, by rw [upd_ne (h.2.2.2 p hp)]; exact n, r⟩
  · by_cases z : a = ea
    · subst z
      rw [upd_same] at e
      cases e
      obtain ⟨oo, vs, e1, e2, e3⟩ := id ho
      refine ⟨ho, ⟨oo, e1⟩, fun h1 h2 ⟨o1, v1, q1, q2, q3⟩ k => ⟨o1, v1, k _ q1, q2, q3⟩⟩
    · rw [upd_ne z] at e
      exact (I.hok a o e).stay (fun _ _ _ q => q) (fun b q => up _ _ q) fun b xs q => up _ _ q
/-- a name is unbound -/
theorem Inv.unname {h' : Heap} {m : Str → Option Value} {j : Nat} {n : Str} {u : Option Value} {t' : Nat} (I : Inv X pins σ H s) (hN : X.N.Nodup) (hj : X.N[j]? = some n) (hk : X.env.scope.names.lookup n = some .local)
    (hm : s.heap.Ns X.env.locals m) (hn' : h'.Ns X.env.locals (fun x => if x = n then u else m x)) (hs : Heap.SameBut X.env.locals s.heap h') : Inv X pins (σ.set j none) H { s with heap := h', toks := t' } := by
  have hjσ : j < σ.length := by rw [I.len]; exact (List.getElem?_eq_some_iff.mp hj).1
  have nl : ∀ b o, X.s₀.heap.get? b = some o → b ≠ X.env.locals := fun b o e => Nat.ne_of_lt (Nat.lt_of_lt_of_le (Heap.lt_size e) I.ok.above)
  have cne := I.cne
  refine ⟨I.ok, I.os, I.bare, ⟨fun b o e n hb hx => (hs.2 b (nl b o e)).trans (I.base.keep b o e n hb hx), fun b o e n hb hx => ?_, I.base.free, fun b o e hx => ?_, I.base.tups, I.base.frzs, I.base.tbls⟩, ⟨_, hn', fun i y v' e1 e2 e3 => ?_⟩, fun y c e => ?_, I.free, I.freeC, fun p hp => ?_, fun b ob e => ?_, by simpa using I.len⟩
  · obtain ⟨sl, e1⟩ := I.base.slot b o e n hb hx
    exact ⟨sl, (hs.2 b (nl b o e)).trans e1⟩
  · obtain ⟨o', e1⟩ := I.base.there b o e hx
    exact ⟨o', (hs.2 b (nl b o e)).trans e1⟩
  · have hi : i ≠ j := fun z => by rw [z, List.getElem?_set_self hjσ] at e2; cases e2
    rw [List.getElem?_set_ne (Ne.symm hi)] at e2
    obtain ⟨m0, hn0, hl⟩ := I.loc
    obtain ⟨u', r', q⟩ := hl i y v' e1 e2 e3
    refine ⟨u', r', ?_⟩
    rcases q with ⟨k, e⟩ | ⟨k, c, e, z⟩
    · refine .inl ⟨k, ?_⟩
      have ny : y ≠ n := fun e => hi (nodup_ix hN e1 (e ▸ hj))
      have em : m0 = m := by
        obtain ⟨o1, es1, ep1, g1, d1, _, f1⟩ := hn0
        obtain ⟨o2, es2, ep2, g2, d2, _, f2⟩ := hm
        rw [g1] at g2; cases g2
        rw [d1] at d2; cases d2
        funext x; rw [← f1, ← f2]
      show (if y = n then u else m y) = _
      rw [if_neg ny, ← em]; exact e
    · exact .inr ⟨k, c, e, z.sameBut hs (cne y c e)⟩
  · obtain ⟨w', z⟩ := I.cell y c e
    exact ⟨w', z.sameBut hs (cne y c e)⟩
  · obtain ⟨e, n, ne, nf, d⟩ := I.pin p hp
    exact ⟨(hs.2 p.1 ne).trans e, n, ne, nf, d⟩
  · refine (I.hok b ob e).stay (fun c w' hc q => (hs.2 c ?_).trans q) (fun _ q => q) fun _ _ q => q
    rintro rfl
    have hf := I.free
    rcases hc with z | hc
    · rw [z] at hf; rw [hf] at e; cases e
    · rw [hf] at hc; cases hc
end
end L2

end

section
set_option Elab.async false
set_option linter.all false
set_option maxRecDepth 100000
set_option maxHeartbeats 4000000
namespace L2
open PySem PySem.Spec PyProof.Rows HT
/-! ### try: x = f(e)  except C as n: y = n -/
def tTryC (K : PySem.W.Frag) (sp : Sp) (i j l : Nat) (Cb : Addr) (ta : TA) : TS := fun D σ H => ta σ H fun vs H1 => sp (vs ++ []) H1 (fun v H2 => D.nx (σ.set i (some v)) H2)
  fun cls _ H2 => PySem.W.exmOne K cls (.ref Cb) = some true ∧ ∀ ea, H2 ea = none → D.nx ((((σ.set j (some (.ref ea))).set l (some (.ref ea))).set j (some .non)).set j none) (upd H2 ea (.ext (xIs ea cls)))
section
variable {X : Cx} {k : Nat} {ps : List Str} {sp : Sp} {x fn cn n y : Str} {i j l : Nat} {Cb : Addr} {e : Expr} {t : TA} {px p1 p2 p3 p4 p5 p6 p7 p8 p9 : Pos}
end
end L2

end

section
set_option Elab.async false
set_option linter.all false
set_option maxRecDepth 100000
set_option maxHeartbeats 4000000
namespace L2
open PySem PySem.Spec PyProof.Rows HT PySem.W PySem.Calls
/-! ### isinstance of an exception -/
section
variable {prog : Program} {w : World} {A : Around} {E : Value → Shared → Prop} {s : Shared} {K : Frag} {x C : Addr} {ox : Obj}
theorem x_class {Q : Option Value → Shared → Prop} (X : K.In s.heap) (I : InstAt s.heap x ox C none) (hga : findIn K (.ref C) "__getattribute__" = some (some (.builtin "BaseException.__getattribute__"))) (hgr : findIn K (.ref C) "__getattr__" = some none)
    (hf : findObj K C none "__class__" = some (.bind (.builtin "getset_descriptor.__get__") (.builtin "object.__class__"))) (hsub : subIn K (.ref C) (.type "BaseException") = some true) (hm : mroIn K C (.type "object") = some true)
    (h : Q (some (.ref C)) { s with toks := s.toks + 1 }) : wpAny (model prog w) A (getAttr? (.ref x) "__class__") Q E s := by
  obtain ⟨hh, g, d, t, os⟩ := s
  have L0 := I.type (M := model prog w)
  have L1 := looks_findIn (M := model prog w) X hga
  have L2 := looks_findIn (M := model prog w) X hgr
  unfold getAttr? getAttrBy? getAttrBy
  refine wpAny_bind (wpAny_mkText (wpAny_bind (wpAny_attempt (wpAny_holding (wpAny_bind (L0.at (wpAny_bind (L1.at ?_))))))))
  have hx2 : (Value.builtin "BaseException.__getattribute__" == Value.builtin "object.__getattribute__") = false := by decide +kernel
  have hx : (onTheHeap (Value.ref C) && Value.builtin "BaseException.__getattribute__" == Value.builtin "object.__getattribute__") = false := by rw [hx2]; rfl
  show wpAny _ _ (if (onTheHeap (Value.ref C) && Value.builtin "BaseException.__getattribute__" == Value.builtin "object.__getattribute__") = true then _ else _) _ _ _
  rw [hx, if_neg Bool.false_ne_true]
  unfold getAttrByItsOwn
  have hb : hookBefore (Value.ref C) = typeLookup (Value.ref C) "__getattr__" := rfl
  rw [hb]
  refine wpAny_bind (L2.at ?_)
  refine wpAny_bind (wpAny_attempt (wpAny_holding ?_))
  have hc : callGetattribute (Value.ref x) (Value.str "__class__" t) (Value.builtin "BaseException.__getattribute__") false = boundAndCalled (Value.builtin "BaseException.__getattribute__") (Value.ref x) (Value.str "__class__" t) := rfl
  rw [hc]
  unfold boundAndCalled
  rw [PySem.F.excAttr_ValueError.ga.bind (.ref x)]
  refine wpAny_bind (wpAny_pure ?_)
  show wpAny _ _ (call (.builtin "BaseException.__getattribute__") [.ref x, .str "__class__" t]) _ _ _
  refine wpAny_call ?_
  have hk : builtinKind "BaseException.__getattribute__" = some .slot := by decide +kernel
  have hs : splitId "BaseException.__getattribute__" = some ("BaseException", "__getattribute__") := by decide +kernel
  refine codeAny_call_builtin PySem.F.excAttr_ValueError.ga.plain PySem.F.entry_bexc_ga ?_
  have hi : Looks (model prog w) hh (isInstance (.ref x) (.type "BaseException")) true := L0.andThen (looks_subIn X hsub)
  have ha := PySem.F.args_bexc_ga (.ref x) (.str "__class__" t)
  have LF := looks_find (M := model prog w) X I hf
  refine @check_slot _ _ _ _ _ _ _ _ _ _ _ hk hs hi ha ?_
  unfold Builtin.«object.__getattribute__»
  refine wpAny_bind (wpAny_of_eq (a := (Value.ref x, [Value.str (Str.ofString "__class__") t])) rfl ?_)
  dsimp only
  refine wpAny_bind (wpAny_pure (wpAny_bind (L0.at (wpAny_bind (LF.at ?_)))))
  show wpAny _ _ (holding [Value.builtin "object.__class__"] (call (.builtin "getset_descriptor.__get__") [.builtin "object.__class__", .ref x, .ref C]) >>= ret) _ _ _
  refine wpAny_bind (wpAny_holding (wpAny_call (class_get (s := { heap := hh, gens := g, drawn := d, toks := t + 1, os := os }) X I hm ?_)))
  exact wpAny_pure (handed_on rfl (wpAny_pure h))
/-- what the fragment tells of an own exception's class -/
structure XCls (K : Frag) (C : Addr) : Prop where
  look : ∃ c d cd sl, K.lookup C = some ⟨c, d, .cls cd, sl⟩
  ga : findIn K (.ref C) "__getattribute__" = some (some (.builtin "BaseException.__getattribute__"))
  gr : findIn K (.ref C) "__getattr__" = some none
  cf : findObj K C none "__class__" = some (.bind (.builtin "getset_descriptor.__get__") (.builtin "object.__class__"))
  sub : subIn K (.ref C) (.type "BaseException") = some true
  mro : mroIn K C (.type "object") = some true
theorem kitx_exc (c : XCls K C) : KitX K (.ref x) (.ref C) (xIs x (.ref C)) where
  ty := fun M h _ p => by
    obtain ⟨o, vs, h1, ⟨h2, _⟩, _⟩ := p
    rw [← h2]
    exact (Looks.ld h1).andThen .now
  it := fun _ _ X _ => by
    obtain ⟨c', d', cd', sl', ho⟩ := c.look
    intro A' Q' E' s' k q
    unfold isType loadHead
    exact wpAny_bind (wpAny_loadPart (k _ _ (X _ _ ho)) (wpAny_pure q))
  ne := fun h tp dd its n sl X htp => by
    obtain ⟨c', d', cd', sl', ho⟩ := c.look
    refine Bool.eq_false_iff.mpr fun q => ?_
    have e : C = tp := Value.ref.inj (beq_iff_eq.mp q)
    subst e
    have z := (X _ _ ho).symm.trans htp
    cases z
  ca := fun {prog w A E Q s} X p k => by
    obtain ⟨o, vs, h1, ⟨h2, h3⟩, h4⟩ := p
    have I : InstAt s.heap x o C none := ⟨h1, h2, by unfold notCls; rw [h4], by rw [h3]; trivial⟩
    exact @x_class _ _ _ _ _ _ _ _ _ _ X I c.ga c.gr c.cf c.sub c.mro k
end
section
variable {X : Cx} {K : Frag}
theorem call_isX (hK : X.K = K) : CallR X (.builtin "isinstance") (fun xs H Q => ∃ ea C c u b, xs = [.ref ea, c] ∧ H ea = some (.ext (xIs ea (.ref C))) ∧ XCls K C ∧ ((∃ D, c = .ref D ∧ u = Value.ref D) ∨ ∃ T, c = .ty T ∧ u = Value.type T) ∧ kitOne K (.ref C) u = some b ∧ Q (.bl b) H) := by
  subst hK
  intro pins s σ H xs us Q I r h
  obtain ⟨ea, C, c, u, b, rfl, e, xc, hc, hk, q⟩ := h
  obtain ⟨v1, v2, rfl, r1, r2⟩ := vals2 r
  obtain rfl : v1 = Value.ref ea := r1
  obtain rfl : v2 = u := by
    rcases hc with ⟨D, rfl, rfl⟩ | ⟨T, rfl, rfl⟩
    · exact r2
    · exact r2
  have p : xIs ea (.ref C) s.heap := (I.hok ea _ e).1
  exact kia_one (kitx_exc xc) I.kIn p hk (fun z => nomatch z) fun tk => ⟨.bl b, H, I.tok _, rfl, q⟩
end
end L2

end

section
set_option Elab.async false
set_option linter.all false
set_option maxRecDepth 100000
set_option maxHeartbeats 4000000
namespace L2
open PySem PySem.Spec PyProof.Rows HT
/-- where no exception is told, none comes -/
theorem FnOk.calm {P : Program} {w : World} {K : PySem.W.Frag} {mg : Str → Option Value} {base : Heap} {k : Nat} {f : Addr} {fd : FuncData} {ps : List Str} {sp : Sp} (F : FnOk P w K mg base (CX1 P w) k f fd ps sp) :
    FnOk P w K mg base CX0 k f fd ps (fun vs H Q _ => sp vs H Q fun _ _ _ => False) :=
  ⟨fun vs H Q E h => F.len vs H Q _ h, fun A outer s H args us vs Q E hr he hb hv hs => codeAny_mono (F.run A outer s H args us vs Q _ hr he hb hv hs) fun r s' h => by
    cases r with
    | ok fl => cases fl <;> exact h
    | error e => obtain ⟨_, _, _, _, _, _, _, _, _, _, _, _, _, _, z⟩ := h; exact z.elim⟩
section
variable {X : Cx} {K : PySem.W.Frag}
theorem pe_globX {x : Str} {a : Addr} {pos : Pos} (hg : Gl X x) (h : X.mg x = some (.ref a)) (hd : (x == ("__debug__" : Str)) = false := by decide) : PE X (.Name x pos) (tC (.ref a)) := pe_glob hg h rfl hd
theorem rl_ValueError : RelV (.ty "ValueError") (.type "ValueError") := rfl
theorem bt_ValueError : bootBuiltins "ValueError" = some (.type "ValueError") := by decide +kernel
/-! ### f"{v}..", v a small int -/
def tFsI (ta tb : TE) : TE := fun σ H Q => ta σ H fun x H1 => ∃ i : Int, x = .int i ∧ i.natAbs < 1000 ∧ tb σ H1 fun y H2 => ∃ b : Str, y = .str b ∧ b.length ≤ 1000 ∧ ∀ z : Str, Q (.str z) H2
end
end L2

end

section
set_option Elab.async false
set_option linter.all false
set_option maxRecDepth 100000
set_option maxHeartbeats 4000000
namespace L2
open PySem PySem.Spec PyProof.Rows HT
/-! ### an exception of a callee passes through the body of a def -/
theorem x_passes {P : Program} {w : World} {K : PySem.W.Frag} {mg : Str → Option Value} {base : Heap} {N : List Str} {qual : Str} {scope : Scope} {f : Addr} {cd : Value} {A : Around} {outer : List Env} {s : Shared} {H : Hp} {E : XK} :
    Passes (CX1 P w) (cxOf (CX1 P w) P w K mg base N qual scope f cd A outer s H E) E := by
  intro pins σ H1 s1 ev s' I hq
  obtain ⟨ea, T, H', C, rfl, os, bare, un, hok, xa, f1, f2, n1, n2, hE⟩ := hq
  have J : Inv (cxOf (CX1 P w) P w K mg base N qual scope f cd A outer s H E) pins σ H' s' := I.call' (ch := []) os un hok bare (fun b z => absurd z (by simp))
  have b1 := J.base
  have o1 := I.none_ours f1 (show ea ∉ ([] : List Addr) by simp)
  have o2 := I.none_ours f2 (show T ∉ ([] : List Addr) by simp)
  show wpAny _ _ (leaving _ (.ref ea)) _ _ s'
  unfold leaving
  refine wpAny_bind (x_note_next J.ok.frames J.stack (L := s.heap.objs.size) rfl xa fun h1 T2 fT2 sl x2 => x_flight x2 fun h2 sl2 x3 => ?_)
  have oT : s.heap.get? T2 = none := (J.none_ours fT2 (show T2 ∉ ([] : List Addr) by simp)).1
  have o1' : s.heap.get? ea = none := o1.1
  have o2' : s.heap.get? T = none := o2.1
  have nT2 : ∀ b o, s.heap.get? b = some o → b ∉ [T2] := fun b o q z => by rw [List.mem_singleton.mp z, oT] at q; cases q
  have ne : ∀ b o, s.heap.get? b = some o → b ∉ [ea, T] := fun b o q z => by
    rcases List.mem_cons.mp z with r | r
    · rw [r, o1'] at q; cases q
    · rw [List.mem_singleton.mp r, o2'] at q; cases q
  have nL : ∀ b o, s.heap.get? b = some o → b ∉ frs outer → b ∉ ((envOfC qual scope s.heap.objs.size f cd) :: outer).filterMap (·.frame) := fun b o q hb z => by
    rcases List.mem_cons.mp (show b ∈ s.heap.objs.size :: outer.filterMap (·.frame) from z) with r | r
    · exact absurd r (Nat.ne_of_lt (Heap.lt_size q))
    · exact hb r
  have J1 : HOk P w H' h1 := J.hok.slid sl (fun b hb => J.stkFree b hb) fun b hb => by
    rcases List.mem_cons.mp hb with rfl | hb
    · exact n1
    · rw [List.mem_singleton.mp hb]; exact n2
  have n3 : H' T2 = none := J.hok.none_of fT2
  refine ⟨ea, T2, H', C, rfl, J.os, J.bare, ⟨fun b o q n hb _ => ?_, fun b o q n hb _ => ?_, fun b o q n _ => b1.free b o q n (by show b ∉ ([] : List Addr); simp), fun b o q _ => ?_, b1.tups, b1.frzs, b1.tbls⟩, ?_, x3, o1', oT, n1, n3, hE⟩
  · have q1 := (sl b o (b1.keep b o q n hb (by show b ∉ ([] : List Addr); simp)) (ne b o q)).1 (nL b o q hb)
    exact (sl2 b o q1 (nT2 b o q)).1 (by simp)
  · obtain ⟨t1, e1⟩ := b1.slot b o q n hb (by show b ∉ ([] : List Addr); simp)
    obtain ⟨t2, e2⟩ := (sl b _ e1 (ne b o q)).2
    exact (sl2 b _ e2 (nT2 b o q)).2.elim fun t3 e3 => ⟨t3, e3⟩
  · obtain ⟨o', e1⟩ := b1.there b o q (by show b ∉ ([] : List Addr); simp)
    obtain ⟨t2, e2⟩ := (sl b _ e1 (ne b o q)).2
    obtain ⟨t3, e3⟩ := (sl2 b _ e2 (nT2 b o q)).2
    exact ⟨_, e3⟩
  · exact J1.slid sl2 (fun b hb => nomatch hb) fun b hb => by rw [List.mem_singleton.mp hb]; exact n3
section
variable {P : Program} {w : World} {K : PySem.W.Frag} {mg : Str → Option Value} {base : Heap} {N : List Str} {qual : Str} {scope : Scope} {f : Addr} {cd : Value} {A : Around} {outer : List Env} {s : Shared} {H : Hp} {E : XK}
variable {k : Nat} {ps : List Str} {sp : Sp} {x : Str} {p pos : Pos} {e : Expr} {es : List Expr} {t : TA}
end
/-! ### n.bit_length() -/
def rBitLen : V → List V → Hp → VK → Prop := fun x vs H Q => ∃ i : Int, x = .int i ∧ vs = [] ∧ Q (.int (Builtin.Int.intBits i : Nat)) H
end L2

end

section
set_option Elab.async false
set_option linter.all false
set_option maxRecDepth 100000
set_option maxHeartbeats 4000000
namespace L2
open PySem PySem.Spec PyProof.Rows HT
/-! ### try: x = f(e, ..)  except C as n: y = n -/
section
variable {X : Cx} {k : Nat} {ps : List Str} {sp : Sp} {x fn cn n y : Str} {i j l : Nat} {Cb : Addr} {e : Expr} {es : List Expr} {t : TA} {px p1 p2 p3 p4 p5 p6 p7 p8 p9 : Pos}
end
end L2

end

section
set_option Elab.async false
set_option linter.all false
set_option maxRecDepth 100000
set_option maxHeartbeats 4000000
namespace L2
open PySem PySem.Spec PyProof.Rows HT
/-! ### enumerate of a tuple -/
def IteT (K : PySem.W.Frag) (a : Addr) : It :=
  ⟨fun i H => ∃ xs x, SqT K H a xs ∧ xs[i]? = some x,
   fun i H v H' => ∃ T x, H T = none ∧ v = .ref T ∧ H' = upd H T (.tup [.int i, x]) ∧ ∀ xs, SqT K H a xs → xs[i]? = some x,
   fun i H => ∃ xs, SqT K H a xs ∧ xs.length = i⟩
def iEnumT (K : PySem.W.Frag) (ta : TA) : TI := fun σ H R => ta σ H fun vs H1 => ∃ a, vs = [.ref a] ∧ (∃ xs, SqT K H1 a xs) ∧ R (IteT K a) H1
end L2

end

section
set_option Elab.async false
set_option linter.all false
set_option maxRecDepth 100000
set_option maxHeartbeats 4000000
namespace L2
open PySem PySem.Spec PyProof.Rows HT
/-! ### sorted(d), the keys ints -/
section
variable {prog : Program} {w : World} {A : Around} {E : Value → Shared → Prop} {s : Shared}
end
section
variable {X : Cx}
/-! ### d.items() -/
def vwD (p a : Addr) : Heap → Prop := fun h => h.IsItemsView p a
end
end L2

end

section
set_option Elab.async false
set_option linter.all false
set_option maxRecDepth 100000
set_option maxHeartbeats 4000000
namespace L2
open PySem PySem.Spec PyProof.Rows HT
section
variable {prog : Program} {w : World} {A : Around} {E : Value → Shared → Prop} {s : Shared}
def tupI (k v : Int) (t u : Tok) : Obj := { cls := .type "tuple", data := .seq #[.int k t, .int v u] }
end
end L2

end

section
set_option Elab.async false
set_option linter.all false
set_option maxRecDepth 100000
set_option autoImplicit false
set_option maxHeartbeats 4000000
namespace L2
open PySem PySem.Spec PyProof.Rows HT Cb
section
variable {prog : Program} {w : World} {A : Around} {E : Value → Shared → Prop} {s : Shared}
end
/-! ### sorted(d.items()), two entries at most -/
def srt2 : List (Int × Int) → List (Int × Int)
  | [x, y] => if y.1 < x.1 then [y, x] else [x, y]
  | l => l
def knV (kn : List (Int × Int)) : List (Key × V) := kn.map fun q => (Sum.inl q.1, V.int q.2)
section
variable {X : Cx}
end
end L2

end

section
set_option Elab.async false
set_option linter.all false
set_option autoImplicit false
set_option maxRecDepth 100000
set_option maxHeartbeats 4000000
namespace L2
open PySem PySem.Spec PyProof.Rows HT Cb
/-! ### min of a list of tuples of ints -/
/-- tuples of ints stand where the list's things are -/
def TupsI (h : Heap) (items : Array Value) (nss : Nat → List Int) : Prop := ∀ (i : Nat) (v : Value), items[i]? = some v → ∃ (t : Addr) (its : Array Value), v = .ref t ∧ IsTup h t its ∧ IntsAre its.toList (nss i)
section
variable {prog : Program} {w : World} {A : Around} {E : Value → Shared → Prop}
end
section
variable {X : Cx}
end
end L2

end

section
set_option Elab.async false
set_option linter.all false
set_option maxRecDepth 100000
set_option maxHeartbeats 4000000
namespace L2
open PySem PySem.Spec PyProof.Rows
/-! ### zip of four lists -/
abbrev Quad (h : Heap) (T : Addr) (a b c d : Value) : Prop := h.get? T = some { cls := .type "tuple", data := .seq #[a, b, c, d] }
structure Far4 (z TO i1 i2 i3 i4 : Addr) : Prop where
  oz : TO ≠ z
  az : i1 ≠ z
  bz : i2 ≠ z
  cz : i3 ≠ z
  dz : i4 ≠ z
  oa : TO ≠ i1
  ob : TO ≠ i2
  oc : TO ≠ i3
  od : TO ≠ i4
  ab : i1 ≠ i2
  ac : i1 ≠ i3
  ad : i1 ≠ i4
  bc : i2 ≠ i3
  bd : i2 ≠ i4
  cd : i3 ≠ i4
/-- a list is none of the zip's own objects -/
structure FarL4 (z TO i1 i2 i3 i4 l : Addr) : Prop where
  z : l ≠ z
  o : l ≠ TO
  a : l ≠ i1
  b : l ≠ i2
  c : l ≠ i3
  d : l ≠ i4
section
variable {prog : Program} {w : World} {A : Around} {E : Value → Shared → Prop} {s : Shared}
end
abbrev w4A (h : Heap) (l : Addr) : Heap := h.push { cls := .type "list_iterator", data := .fields #[.ref l, .int 0 0] }
abbrev w4B (h : Heap) (l1 l2 l3 l4 : Addr) : Heap := (w4A (w4A (w4A (w4A h l1) l2) l3) l4).push { cls := .type "tuple", data := .seq #[.ref h.objs.size, .ref (w4A h l1).objs.size, .ref (w4A (w4A h l1) l2).objs.size, .ref (w4A (w4A (w4A h l1) l2) l3).objs.size] }
abbrev w4C (h : Heap) (l1 l2 l3 l4 : Addr) : Heap := (w4B h l1 l2 l3 l4).push { cls := .type "tuple", data := .seq #[.none, .none, .none, .none] }
abbrev w4D (h : Heap) (l1 l2 l3 l4 : Addr) : Heap := (w4C h l1 l2 l3 l4).push { cls := .type "zip", data := .fields #[.none, .bool false, .bool false, .ref (w4A (w4A (w4A (w4A h l1) l2) l3) l4).objs.size, .ref (w4B h l1 l2 l3 l4).objs.size] }
def Itz4 (K : PySem.W.Frag) (a b c d : Addr) : It :=
  ⟨fun i H => ∃ xs x ys y us u ts t, SqL K H a xs ∧ SqL K H b ys ∧ SqL K H c us ∧ SqL K H d ts ∧ xs[i]? = some x ∧ ys[i]? = some y ∧ us[i]? = some u ∧ ts[i]? = some t,
   fun i H v H' => ∃ T x y u t, H T = none ∧ v = .ref T ∧ H' = upd H T (.tup [x, y, u, t]) ∧ (∀ xs, SqL K H a xs → xs[i]? = some x) ∧ (∀ ys, SqL K H b ys → ys[i]? = some y) ∧ (∀ us, SqL K H c us → us[i]? = some u) ∧ ∀ ts, SqL K H d ts → ts[i]? = some t,
   fun i H => ∃ xs, SqL K H a xs ∧ xs.length ≤ i⟩
def iZip4 (K : PySem.W.Frag) (ta : TA) : TI := fun σ H R => ta σ H fun vs H1 => ∃ a b c d, vs = [.ref a, .ref b, .ref c, .ref d] ∧ (∃ xs, SqL K H1 a xs) ∧ (∃ ys, SqL K H1 b ys) ∧ (∃ us, SqL K H1 c us) ∧ (∃ ts, SqL K H1 d ts) ∧ R (Itz4 K a b c d) H1
end L2

end

section
set_option Elab.async false
set_option linter.all false
set_option maxRecDepth 100000
set_option maxHeartbeats 4000000
namespace L2
open PySem PySem.Spec PyProof.Rows PySem.SeqAt
/-! ### range(a, b, -1) -/
def Itd (hi : Int) (n : Nat) : It := ⟨fun i _ => i < n, fun i H x H' => H' = H ∧ x = .int (hi - i), fun i _ => n ≤ i⟩
section
variable {X : Cx} {tg : Expr}
def iRng3 (ta : TA) : TI := fun σ H R => ta σ H fun vs H1 => ∃ i j : Int, vs = [.int i, .int j, .int (-1)] ∧ Builtin.Range.small i j (-1) = true ∧ Builtin.divisionGoesByPylong (j - i) (-1) = false ∧ R (Itd i (i - j).toNat) H1
end
/-! ### tuples of numbers and tuples, equal part by part -/
inductive Eqv (K : PySem.W.Frag) (H : Hp) : Nat → V → V → Prop where
  | int (n : Nat) (i : Int) : Eqv K H n (.int i) (.int i)
  | tup {n : Nat} {a b : Addr} {xs ys : List V} (ha : SqT K H a xs) (hb : SqT K H b ys) (hl : xs.length = ys.length) (h : ∀ (i : Nat) (x y : V), xs[i]? = some x → ys[i]? = some y → Eqv K H n x y) : Eqv K H (n + 1) (.ref a) (.ref b)
/-- t != u, equal part by part -/
def rNeTT (K : PySem.W.Frag) : R2 := fun x y H Q => ∃ a b xs ys, x = .ref a ∧ y = .ref b ∧ SqT K H a xs ∧ SqT K H b ys ∧ xs.length = ys.length ∧ (∀ (i : Nat) (x y : V), xs[i]? = some x → ys[i]? = some y → Eqv K H 8 x y) ∧ Q (.bl false) H
end L2

end

section
set_option Elab.async false
set_option linter.all false
set_option maxRecDepth 100000
set_option maxHeartbeats 4000000
namespace L2
open PySem PySem.Spec PyProof.Rows PySem.SeqAt
section
variable {X : Cx} {K : PySem.W.Frag}
/-! ### xs.insert(k, y) -/
def rInsert : V → List V → Hp → VK → Prop := fun x vs H Q => ∃ (l : Addr) (xs : List V) (k : Nat) (y : V), x = .ref l ∧ vs = [.int (k : Int), y] ∧ H l = some (.lst xs) ∧ k ≤ xs.length ∧ xs.length < sizeLine ∧ Q .non (upd H l (.lst (xs.take k ++ y :: xs.drop k)))
/-- xs == [] -/
def rEqL0 (K : PySem.W.Frag) : R2 := fun x y H Q => ∃ a b xs, x = .ref a ∧ y = .ref b ∧ SqL K H a xs ∧ SqL K H b [] ∧ Q (.bl xs.isEmpty) H
end
end L2

end

section
set_option Elab.async false
set_option linter.all false
set_option maxRecDepth 100000
set_option maxHeartbeats 4000000
namespace L2
open PySem PySem.Spec PyProof.Rows PySem.SeqAt
section
variable {X : Cx}
/-! ### dict(d), d == e, d != e -/
/-- two dicts of the same entries, their values numbers -/
def rEqD (neg : Bool) : R2 := fun x y H Q => ∃ (a b : Addr) (kvs : List (Key × V)), x = .ref a ∧ y = .ref b ∧ H a = some (.dK kvs) ∧ H b = some (.dK kvs) ∧ (∀ k x, (k, x) ∈ kvs → valV kvs k = some x ∧ ∃ n : Int, x = .int n) ∧ Q (.bl (!neg)) H
end
end L2

end

section
set_option Elab.async false
set_option linter.all false
set_option maxRecDepth 100000
set_option maxHeartbeats 4000000
namespace L2
open PySem PySem.Spec PyProof.Rows PySem.SeqAt
end L2

end

section
set_option Elab.async false
set_option linter.all false
set_option maxRecDepth 100000
set_option maxHeartbeats 4000000
namespace L2
open PySem PySem.Spec PyProof.Rows PySem.SeqAt
section
variable {X : Cx} {K : PySem.W.Frag}
/-- x != y: both None, or two tuples that are equal part by part -/
def rNeNT (K : PySem.W.Frag) : R2 := fun x y H Q => (x = .non ∧ y = .non ∧ Q (.bl false) H) ∨ rNeTT K x y H Q
/-- two lists of None and numbers, the same -/
def rNeLS (K : PySem.W.Frag) : R2 := fun x y H Q => ∃ a b xs, x = .ref a ∧ y = .ref b ∧ SqL K H a xs ∧ SqL K H b xs ∧ (∀ z ∈ xs, z = .non ∨ ∃ i : Int, z = .int i) ∧ Q (.bl false) H
end
end L2

end

section
set_option Elab.async false
set_option linter.all false
set_option maxRecDepth 100000
set_option maxHeartbeats 4000000
namespace L2
open PySem PySem.Spec PyProof.Rows

/-! ### a comprehension whose own variables are cells -/
structure CompOk2 (N : List Str) (osc : Scope) (Nc : List Str) (src : List (Option Nat)) (scope : Scope) : Prop where
  kind : scope.kind = .function
  nodup : scope.names.Pairwise fun x y => x.1 ≠ y.1
  free : ∀ x ∈ scope.names, x.2 = .free → osc.names.lookup x.1 = some .cell ∨ osc.names.lookup x.1 = some .free
  len : src.length = Nc.length
  src : ∀ (j i : Nat), src[j]? = some (some i) → ∃ x, Nc[j]? = some x ∧ N[i]? = some x ∧ scope.names.lookup x = some .free
def compCheck2 (N : List Str) (osc : Scope) (Nc : List Str) (src : List (Option Nat)) (scope : Scope) : Bool :=
  scope.kind == .function && ndOk scope.names &&
  (scope.names.all fun x => x.2 != .free || osc.names.lookup x.1 == some .cell || osc.names.lookup x.1 == some .free) && srcOk N scope.names src Nc
def cxC2 (X : Cx) (Nc : List Str) (scope : Scope) (cl : List (Str × Addr)) (C : Addr) (fp : List Addr) (s2 : Shared) (H2 : Hp) : Cx :=
  { cxC X Nc scope cl C fp s2 H2 with fn := fun x => scope.names.lookup x == some .cell }

/-- the cells that the comprehension sees -/
structure OwnC (X : Cx) (scope : Scope) (C : Addr) (h1 : Heap) (cl : List (Str × Addr)) : Prop where
  lk : ∀ (x : Str) (c : Addr), cl.lookup x = some c → (X.env.cells.lookup x = some c ∧ ¬ (x, NameKind.cell) ∈ scope.names) ∨ (C < c ∧ h1.IsCell c none)
  inj : ∀ (x y : Str) (c : Addr), C < c → cl.lookup x = some c → cl.lookup y = some c → x = y
  own : ∀ x c, (x, NameKind.cell) ∈ scope.names → cl.lookup x = some c → C < c
  has : ∀ x, (x, NameKind.cell) ∈ scope.names → ∃ c, cl.lookup x = some c
  free : ∀ x, (x, NameKind.free) ∈ scope.names → ∃ c, cl.lookup x = some c ∧ X.env.cells.lookup x = some c

section
variable {X : Cx} {Nc : List Str} {src : List (Option Nat)} {scope : Scope} {elt tg iter : Expr} {ifs : List Expr} {pos : Pos} {wi : TI} {g : TG} {tf : TT} {te : TE}
end
section
variable {X : Cx} {K : PySem.W.Frag} {tg l : Expr} {tl : TE}
end
end L2

end

section
set_option Elab.async false
set_option linter.all false
set_option maxRecDepth 100000
set_option maxHeartbeats 4000000
namespace L2
open PySem PySem.Spec PyProof.Rows HT
/-! ### sorted of a list of numbers; three arguments by name, turned on -/
section
variable {X : Cx} {o e : Expr} {es : List Expr} {to : TE} {t : TA} {T : String} {id : String} {name : Str} {apos cpos : Pos} {r : V → List V → Hp → VK → Prop}
end
def rt3 {α : Type} (us zs : List α) : List α := match us, zs with
  | [], [a, b, c] => [b, c, a]
  | _, _ => []
end L2

end

section
set_option Elab.async false
set_option linter.all false
set_option maxRecDepth 100000
set_option maxHeartbeats 4000000
namespace L2
open PySem PySem.Spec PyProof.Rows HT
/-! ### calls that may raise: what an exception asks may speak of the names as they stand -/
def PassS (CX : CXT) (X : Cx) (E : St → XK) : Prop := ∀ (pins : List (Addr × Obj)) (σ : St) (H : Hp) (s : Shared) (e : Value) (s' : Shared), Inv X pins σ H s → CX X.stack H s (E σ) e s' → X.xe e s'
theorem Passes.s {CX : CXT} {X : Cx} {E : XK} (h : Passes CX X E) : PassS CX X fun _ => E := fun pins σ H s e s' => h pins σ H s e s'
def tCallS (sp : Sp) (E : St → XK) (t : TA) : TE := fun σ H Q => t σ H fun vs H1 => sp (vs ++ []) H1 Q (E σ)
section
variable {X : Cx} {CX : CXT} {k : Nat} {f C : Addr} {fd : FuncData} {ps ks : List Str} {sp : Sp} {E : St → XK} {x m : Str} {p pos apos : Pos} {e o : Expr} {es : List Expr} {kws : List Keyword} {ta : TE} {t tk : TA} {g : List Value → List Value → List Value} {gV : List V → List V → List V}
theorem pe_calS (Cl : CalX X.prog X.w X.K X.mg X.base k x ps sp) (hr : Room k X.A) (hg : Gl X x) (hx : PassS (CX1 X.prog X.w) X E) (ha : PA X (e :: es) t) (hdb : (x == ("__debug__" : Str)) = false := by decide)
    (he : starEach (e :: es) X.env = (false, eval e X.env) :: starEach es X.env := by rfl) (hpl : (backTo pos (starEach es X.env)).any (·.1) = false := by rfl) : PE X (.Call (.Name x p) (e :: es) [] pos) (tCallS sp E t) := by
  obtain ⟨f, fd, F, hm, hk, hb⟩ := Cl.ex
  intro pins s σ H Q I h
  refine wpAny_Call_Name_kw (ld_glob I hg hm ?_ hdb)
  refine PySem.W.callWith_K (h₀ := X.base) I.ok.mod.kin hk (thn (ha pos pins s σ H _ I h) fun us s1 ⟨vs, H1, I1, r, q⟩ => ⟨I1.kIn, ?_⟩) he hpl
  have r2 : Vals (vs ++ []) (us ++ []) := r.append .nil
  have hl : (us ++ []).length = ps.length := by rw [← r2.length]; exact F.len _ _ _ _ q
  refine wpAny_call (codeAny_mono (F.run X.A X.stack s1 H1 ⟨us, []⟩ (us ++ []) (vs ++ []) Q (E σ) hr I1.env0 (hb s1 us I1.kIn hl) r2 q) fun r s' hq => ?_)
  cases r with
  | error e => exact hx pins σ H1 s1 e s' I1 hq
  | ok fl =>
    cases fl with
    | ret u => exact I1.after hq
    | next => exact False.elim hq
    | brk => exact False.elim hq
    | cont => exact False.elim hq
end
/-! ### C(..), which may raise -/
structure MakX (P : Program) (w : World) (K : PySem.W.Frag) (mg : Str → Option Value) (base : Heap) (k : Nat) (x : Str) (C : Addr) (ks : List Str) (gV : List V → List V → List V) (sp : Sp) : Prop where
  at_ : mg x = some (.ref C)
  ex : ∃ f fd ps g, Mk K C f ∧ FnOk P w K mg base (CX1 P w) k f fd ps sp ∧ KBinds K fd ps ks g gV
theorem MakX.kp {P : Program} {w : World} {K : PySem.W.Frag} {mg : Str → Option Value} {base : Heap} {k : Nat} {x : Str} {C : Addr} {ks : List Str} {gV : List V → List V → List V} {sp : Sp} (M : MakX P w K mg base k x C ks gV sp) : PySem.W.keepIn K (.ref C) = true := by
  obtain ⟨_, _, _, _, _, M, _⟩ := M
  exact M.kp
def tMakS (C : Addr) (gV : List V → List V → List V) (sp : Sp) (E : St → XK) (t tk : TA) : TE := fun σ H Q => t σ H fun vs H1 => tk σ H1 fun zs H2 => ∀ x dx, H2 x = none → H2 dx = none → dx ≠ x →
  sp (gV (.ref x :: vs) zs) (upd (upd H2 dx (.own x)) x (.ins C dx [])) (fun v H3 => v = .non ∧ Q (.ref x) H3) (E σ)
section
variable {X : Cx} {k : Nat} {C : Addr} {ks : List Str} {gV : List V → List V → List V} {sp : Sp} {E : St → XK} {x : Str} {p pos : Pos} {e : Expr} {es : List Expr} {kws : List Keyword} {t tk : TA}
theorem run_makS {pins : List (Addr × Obj)} {σ : St} {H : Hp} {s : Shared} {Q : VK} {us ws : List Value} {vs zs : List V} (M : MakX X.prog X.w X.K X.mg X.base k x C ks gV sp) (hr : Room (k + 1) X.A) (hx : PassS (CX1 X.prog X.w) X E) (I : Inv X pins σ H s) (r : Vals vs us) (rz : Vals zs ws)
    (h : ∀ y dy, H y = none → H dy = none → dy ≠ y → sp (gV (.ref y :: vs) zs) (upd (upd H dy (.own y)) y (.ins C dy [])) (fun v H2 => v = .non ∧ Q (.ref y) H2) (E σ)) :
    wpAny (model X.prog X.w) X.A (call (.ref C) us (ks.zip ws)) (EP X pins σ Q) X.xe s := by
  obtain ⟨hm, f, fd, ps, g, M, F, hb⟩ := M
  have hq := h (s.heap.objs.size + 1) s.heap.objs.size (I.hok.fresh (Nat.le_succ _)) (I.hok.fresh (Nat.le_refl _)) (Nat.ne_of_lt (Nat.lt_succ_self _))
  have I2 := Inv.made (C := C) I
  have r2 : Vals (gV (V.ref (s.heap.objs.size + 1) :: vs) zs) (g (Value.ref (s.heap.objs.size + 1) :: us) ws) := hb.rel (.cons rfl r) rz
  have hl : (g (Value.ref (s.heap.objs.size + 1) :: us) ws).length = ps.length := by rw [← r2.length]; exact F.len _ _ _ _ hq
  refine wpAny_call (make_map (f := f) I.kIn M.makes M.init (beq_iff_eq.mp M.fn) (codeAny_mono (F.run _ X.stack _ _ ⟨Value.ref (s.heap.objs.size + 1) :: us, ks.zip ws⟩ _ _ _ (E σ) (hr.make C us (ks.zip ws))
    (I2.env0.make C us (ks.zip ws)) (hb.to _ (Value.ref (s.heap.objs.size + 1) :: us) ws I2.kIn hl) r2 hq) fun r s' hq' => ?_))
  cases r with
  | error e => exact hx pins σ _ _ e s' I2 hq'
  | ok fl =>
    cases fl with
    | ret u =>
      obtain ⟨v, H', I3, rv, ev, q3⟩ := I2.after hq'
      subst ev
      exact ⟨rv, ⟨V.ref (s.heap.objs.size + 1), H', I3, rfl, q3⟩⟩
    | next => exact False.elim hq'
    | brk => exact False.elim hq'
    | cont => exact False.elim hq'
theorem pe_makS (M : MakX X.prog X.w X.K X.mg X.base k x C [] gV sp) (hr : Room (k + 1) X.A) (hg : Gl X x) (hx : PassS (CX1 X.prog X.w) X E) (ha : PA X (e :: es) t) (hdb : (x == ("__debug__" : Str)) = false := by decide)
    (he : starEach (e :: es) X.env = (false, eval e X.env) :: starEach es X.env := by rfl) (hpl : (backTo pos (starEach es X.env)).any (·.1) = false := by rfl) : PE X (.Call (.Name x p) (e :: es) [] pos) (tMakS C gV sp E t tNil) := by
  intro pins s σ H Q I h
  refine wpAny_Call_Name_kw (ld_glob I hg M.at_ ?_ hdb)
  refine PySem.W.callWith_K (h₀ := X.base) I.ok.mod.kin M.kp (thn (ha pos pins s σ H _ I h) fun us s1 ⟨vs, H1, I1, r, q⟩ => ⟨I1.kIn, ?_⟩) he hpl
  exact run_makS (ws := []) (zs := []) M hr hx I1 r .nil q
theorem pe_makKS (M : MakX X.prog X.w X.K X.mg X.base k x C ks gV sp) (hr : Room (k + 1) X.A) (hg : Gl X x) (hx : PassS (CX1 X.prog X.w) X E) (hkw : PK X kws tk)
    (hall : (backToKw pos (keywordEach kws X.env)).all (·.1.isSome) = true := by rfl) (hks : (backToKw pos (keywordEach kws X.env)).filterMap (·.1) = ks := by rfl) (hdb : (x == ("__debug__" : Str)) = false := by decide)
    (hpl : ((backTo pos (starEach [] X.env)).any (·.1) || (backToKw pos (keywordEach kws X.env)).any (·.1.isNone)) = false := by rfl) : PE X (.Call (.Name x p) [] kws pos) (tMakS C gV sp E tNil tk) := by
  intro pins s σ H Q I h
  refine wpAny_Call_Name_kw (ld_glob I hg M.at_ ?_ hdb)
  refine PySem.W.callWith_KW0 (h₀ := X.base) I.ok.mod.kin M.kp hall ?_ hpl
  refine thn (hkw pos pins s σ H _ I h) fun ws s2 ⟨zs, H2, I2, rz, q2⟩ => ⟨I2.kIn, ?_⟩
  rw [hks]
  exact run_makS (us := []) (vs := []) M hr hx I2 .nil rz q2
end
/-! ### o.m(..), which may raise -/
structure MthX (P : Program) (w : World) (K : PySem.W.Frag) (mg : Str → Option Value) (base : Heap) (k : Nat) (C : Addr) (m : Str) (ks : List Str) (gV : List V → List V → List V) (sp : Sp) : Prop where
  cls : Cls K C
  ex : ∃ f fd ps g, Meth K C m f ∧ FnOk P w K mg base (CX1 P w) k f fd ps sp ∧ KBinds K fd ps ks g gV
def tMthS (P : Program) (w : World) (K : PySem.W.Frag) (mg : Str → Option Value) (base : Heap) (k : Nat) (m : Str) (ks : List Str) (E : St → XK) (ta : TE) (t tk : TA) : TE := fun σ H Q => ta σ H fun x H1 => ∃ a C dx fs gV sp, x = .ref a ∧ H1 a = some (.ins C dx fs) ∧ MthX P w K mg base k C m ks gV sp ∧ fs.lookup m = none ∧
  t σ H1 fun vs H2 => tk σ H2 fun zs H3 => sp (gV (x :: vs) zs) H3 Q (E σ)
section
variable {X : Cx} {k : Nat} {C : Addr} {ks : List Str} {E : St → XK} {x m : Str} {p pos apos : Pos} {e o : Expr} {es : List Expr} {kws : List Keyword} {ta : TE} {t tk : TA}
end
/-! ### within a try -/
abbrev NotOurs (X : Cx) (pins : List (Addr × Obj)) (b : Addr) : Prop := X.s₀.heap.get? b = none ∧ b ≠ X.env.locals ∧ (∀ x c, X.env.cells.lookup x = some c → c ≠ b) ∧ ∀ p ∈ X.pn ++ pins, p.1 ≠ b
abbrev Cx.tried (X : Cx) (pins : List (Addr × Obj)) (E : St → XK) : Cx := { X with pn := X.pn ++ pins, xe := fun e s' => ∃ σ ea T H' C, e = .ref ea ∧ Inv X pins σ H' s' ∧ XAt s'.heap ea T (.ref C) .none ∧ H' ea = none ∧ H' T = none ∧ NotOurs X pins ea ∧ NotOurs X pins T ∧ E σ (.ref C) none H' }
section
variable {X : Cx} {pins pins2 : List (Addr × Obj)} {σ : St} {H : Hp} {s : Shared} {E : St → XK}
theorem Cx.Ok.tried (ok : X.Ok) : (X.tried pins E).Ok := ⟨ok.mod, ok.kind, ok.glob, ok.blt, ok.above, ok.inj, ok.has, ok.cab, ok.hd, ok.frames, ok.stk, ok.exf, ok.bs, ok.bsz, ok.noex, ok.exfs, ok.funs, ok.frf⟩
theorem Cx.Ok.untried (ok : (X.tried pins E).Ok) : X.Ok := ⟨ok.mod, ok.kind, ok.glob, ok.blt, ok.above, ok.inj, ok.has, ok.cab, ok.hd, ok.frames, ok.stk, ok.exf, ok.bs, ok.bsz, ok.noex, ok.exfs, ok.funs, ok.frf⟩
theorem Inv.tried (I : Inv X pins σ H s) (E : St → XK) : Inv (X.tried pins E) [] σ H s := ⟨I.ok.tried, I.os, I.bare, I.base, I.loc, I.cell, I.free, I.freeC, by
  intro p hp
  rw [List.append_nil] at hp
  exact I.pin p hp, I.hok, I.len⟩
theorem Inv.untried (I : Inv (X.tried pins E) pins2 σ H s) : Inv X pins σ H s := ⟨I.ok.untried, I.os, I.bare, I.base, I.loc, I.cell, I.free, I.freeC, fun p hp => I.pin p (List.mem_append_left _ hp), I.hok, I.len⟩
theorem SP.untried {D : Ends} {f : Flow} {s' : Shared} (h : SP (X.tried pins E) pins2 D f s') : SP X pins D f s' := by
  cases f with
  | next => obtain ⟨σ', H', I, q⟩ := h; exact ⟨σ', H', I.untried, q⟩
  | brk => obtain ⟨σ', H', I, q⟩ := h; exact ⟨σ', H', I.untried, q⟩
  | cont => obtain ⟨σ', H', I, q⟩ := h; exact ⟨σ', H', I.untried, q⟩
  | ret u => obtain ⟨v, σ', H', I, r, q⟩ := h; exact ⟨v, σ', H', I.untried, r, q⟩
theorem pass_tried (hex : X.ex = []) : PassS (CX1 X.prog X.w) (X.tried pins E) E := by
  intro pins2 σ H1 s1 ev s' I hq
  obtain ⟨ea, T, H', C', rfl, os, bare, un, hok, xa, f1, f2, n1, n2, hE⟩ := hq
  have J : Inv (X.tried pins E) pins2 σ H' s' := I.call' (ch := []) os un hok bare (fun b z => absurd z (by simp))
  have nex : ∀ b : Addr, b ∉ (X.tried pins E).ex := fun b z => by
    have z : b ∈ X.ex := z
    rw [hex] at z; cases z
  have o1 := I.untried.none_ours f1 (nex ea)
  have o2 := I.untried.none_ours f2 (nex T)
  exact ⟨σ, ea, T, H', C', rfl, J.untried, xa, n1, n2, o1, o2, hE⟩
end
/-- try: .. except C as n: .. -/
def tTry1 (K : PySem.W.Frag) (tb : (St → XK) → TS) (j : Nat) (Cb : Addr) (th : TS) : TS := fun D σ H =>
  tb (fun σ' cls _ H2 => PySem.W.exmOne K cls (.ref Cb) = some true ∧ ∀ ea, H2 ea = none → th { nx := fun σ2 H3 => D.nx ((σ2.set j (some .non)).set j none) H3, rt := fun _ _ => False } (σ'.set j (some (.ref ea))) (upd H2 ea (.ext (xIs ea cls)))) D σ H
/-- try: .. except C: .. -/
def tTry1n (K : PySem.W.Frag) (tb : (St → XK) → TS) (Cb : Addr) (th : TS) : TS := fun D σ H =>
  tb (fun σ' cls _ H2 => PySem.W.exmOne K cls (.ref Cb) = some true ∧ th { nx := D.nx, rt := fun _ _ => False } σ' H2) D σ H
section
variable {X : Cx} {cn n : Str} {j : Nat} {Cb : Addr} {body hbody : List Stmt} {b₀ : Stmt} {tb : (St → XK) → TS} {th : TS} {p4 p8 p9 : Pos}
theorem ps_try1 (hb : ∀ (pins : List (Addr × Obj)) (E : St → XK), PSs (X.tried pins E) body (tb E)) (hD : ∀ ea, PSs (X.marked (.ref ea)).nox (b₀ :: hbody) th) (hc : X.calm = true) (hN : X.N.Nodup) (hj : X.N[j]? = some n) (kn : X.env.scope.names.lookup n = some .local)
    (hmc : X.mg cn = some (.ref Cb)) (hst : X.stack = X.env :: X.outer ∧ X.env.frame = some X.env.locals) (hex : X.ex = []) (hgm : ∀ ea, Gl (X.marked (.ref ea)) cn) (hdc : (cn == ("__debug__" : Str)) = false := by decide) :
    PS X (.Try body [.ExceptHandler (some (.Name cn p4)) (some n) (b₀ :: hbody) p8] [] [] p9) (tTry1 X.K tb j Cb th) := by
  intro pins s σ H D I h
  refine wpAny_Try_except (wpAny_mono (hb pins _ [] s σ H D (I.tried _) h) (fun fl s' q => ?_) fun e s' q => ?_)
  · have q := q.untried
    cases fl with
    | next => exact wpAny_execs_nil q
    | brk => exact q
    | cont => exact q
    | ret u => exact q
  · obtain ⟨σ', ea, T, H', C', rfl, J, xa, n1, n2, o1, o2, hm2, k2⟩ := q
    have fr : X.A.frames = some (X.env :: X.outer) := by rw [← hst.1]; exact J.ok.frames
    have fl : s'.heap.FunFrames X.base (X.env :: X.outer) := by rw [← hst.1]; exact J.stack
    refine x_note_next fr fl hst.2 xa fun h1 T2 fT2 sl x2 => ?_
    have sl' : Slid (frs X.stack) [ea, T] s'.heap h1 := by rw [hst.1]; exact sl
    have J1 : Inv X pins σ' H' { s' with heap := h1 } := J.slid sl' fun b hb => by
      rcases List.mem_cons.mp hb with rfl | hb
      · exact ⟨n1, o1⟩
      · rw [List.mem_singleton.mp hb]; exact ⟨n2, o2⟩
    have n3 : H' T2 = none := J.hok.none_of fT2
    have nex : ∀ b : Addr, b ∉ X.ex := fun b z => by rw [hex] at z; cases z
    have o3 := J.none_ours fT2 (nex T2)
    have cT2 : ∀ b ∈ [T2], H' b = none ∧ X.s₀.heap.get? b = none ∧ b ≠ X.env.locals ∧ (∀ x c, X.env.cells.lookup x = some c → c ≠ b) ∧ ∀ p ∈ X.pn ++ pins, p.1 ≠ b := fun b hb => by rw [List.mem_singleton.mp hb]; exact ⟨n3, o3⟩
    refine x_flight x2 fun h2 sl2 x3 => ?_
    have J2 : Inv X pins σ' H' { s' with heap := h2 } := J1.slid (sl2.mono (fun b z => nomatch z) fun _ z => z) cT2
    have ty : PySem.W.Looks (model X.prog X.w) h2 (typeOf (.ref ea)) (.ref C') := by
      obtain ⟨oe, vs, oT, ts, g1, ⟨g2, _⟩, _⟩ := x3
      rw [← g2]
      exact (PySem.W.Looks.ld g1).andThen .now
    have Jm := J2.marked (.ref ea)
    refine wpAny_handleBy_cons (codeAny_handlers_test (ld_glob Jm (hgm ea) hmc ?_ hdc)) (by intro z; cases z)
    refine (PySem.W.exm_one Jm.kIn ty hm2).here ?_
    refine codeAny_handlers_suite_as (x_flight x3 fun h3 sl3 x4 => ?_)
    have J3 : Inv X pins σ' H' { s' with heap := h3 } := J2.slid (sl3.mono (fun b z => nomatch z) fun _ z => z) cT2
    have xo : xIs ea (.ref C') h3 := by
      obtain ⟨oe, vs, oT, ts, g1, g2, g3, _⟩ := x4
      exact ⟨oe, vs, g1, g2, g3⟩
    have J4 : Inv X pins σ' (upd H' ea (.ext (xIs ea (.ref C')))) { s' with heap := h3 } := J3.trackX n1 xo o1
    have k3 := k2 ea n1
    clear k2
    generalize upd H' ea (.ext (xIs ea (.ref C'))) = H3 at J4 k3
    refine store_ok (v := .ref ea) J4 hN hj (.inl kn) rfl (fun s4 J5 => ?_) (.inr kn)
    refine wpAny_mono (hD ea pins s4 _ H3 _ ((J5.marked (.ref ea)).wish _) k3) (fun fl s5 hq => ?_) fun _ _ z => False.elim z
    cases fl with
    | ret u => obtain ⟨_, _, _, _, _, z⟩ := hq; exact False.elim z
    | brk => obtain ⟨_, _, _, z⟩ := hq; exact False.elim z
    | cont => obtain ⟨_, _, _, z⟩ := hq; exact False.elim z
    | next =>
      obtain ⟨σ6, H6, J6, q6⟩ := hq
      have J7 : Inv X pins σ6 H6 s5 := J6.unwish.unmarked I.ok.hd
      have hjσ : j < σ6.length := by rw [J7.len]; exact (List.getElem?_eq_some_iff.mp hj).1
      show wpAny (model X.prog X.w) X.A (do bindName X.env n .none; unbindBehindTheSuite X.env n p8) (fun _ s₃ => SP X pins D .next s₃) X.xe s5
      refine wpAny_bind (wpAny_bindName (store_ok (v := .non) J7 hN hj (.inl kn) rfl (fun s8 J8 => ?_) (.inr kn)))
      unfold unbindBehindTheSuite
      refine wpAny_onRaise ?_
      obtain ⟨m, hm8, hl8⟩ := id J8.loc
      have hb8 : ∃ v, m n = some v := by
        obtain ⟨u, ru, q⟩ := hl8 j n .non hj (by rw [List.getElem?_set_self hjσ]) (.inl kn)
        rcases q with ⟨_, q⟩ | ⟨z, _⟩
        · exact ⟨_, q⟩
        · rcases z with z | z
          · have z : X.env.scope.names.lookup n = some .cell := z
            rw [kn] at z; cases z
          · have z : X.env.scope.names.lookup n = some .free := z
            rw [kn] at z; cases z
      obtain ⟨vn, hvn8⟩ := hb8
      refine wpAny_unbindName_local kn hm8 hvn8 (by rw [J8.ok.kind]; rfl) fun h9 u9 hn9 hs9 => ?_
      exact ⟨_, H6, J8.unname (t' := s8.toks) hN hj kn hm8 hn9 hs9, q6⟩
end
end L2

end

section
set_option Elab.async false
set_option linter.all false
set_option maxRecDepth 100000
set_option maxHeartbeats 4000000
namespace L2
open PySem PySem.Spec PyProof.Rows HT
/-! ### f"..", of any parts: some text -/
abbrev TJ := St → Hp → (Hp → Prop) → Prop
def PJ (X : Cx) (es : List Expr) (t : TJ) : Prop := ∀ (out : Str) (pins : List (Addr × Obj)) (s : Shared) (σ : St) (H : Hp) (R : Hp → Prop), out.length + 2000 * es.length ≤ 100000 → Inv X pins σ H s → t σ H R →
  wpAny (model X.prog X.w) X.A (joinParts out (evalEach es X.env)) (fun u s' => ∃ (z : Str) (tk : Tok) (H' : Hp), u = .str z tk ∧ Inv X pins σ H' s' ∧ R H') X.xe s
def jNil : TJ := fun _ H R => R H
def jStr (ta : TE) (t : TJ) : TJ := fun σ H R => ta σ H fun x H1 => ∃ a : Str, x = .str a ∧ a.length ≤ 1000 ∧ t σ H1 R
def jInt (ta : TE) (t : TJ) : TJ := fun σ H R => ta σ H fun x H1 => ∃ i : Int, x = .int i ∧ i.natAbs < 2 ^ 1000 ∧ t σ H1 R
def tFsN (t : TJ) : TE := fun σ H Q => t σ H fun H1 => ∀ z : Str, Q (.str z) H1
section
variable {X : Cx} {e v : Expr} {es : List Expr} {pos p2 : Pos} {ta : TE} {t : TJ}
theorem pj_nil : PJ X [] jNil := fun out pins s σ H R hl I h => by
  refine joinParts_nilE (joinParts_nil ⟨out, _, H, rfl, I.tok _, h⟩ ?_)
  have hz : (100000 : Nat) ≤ sizeLine := by decide
  simp only [List.length_nil] at hl
  omega
theorem pj_str (he : PE X e ta) (hs : PJ X es t) : PJ X (e :: es) (jStr ta t) := fun out pins s σ H R hl I h => by
  refine joinParts_consE (joinParts_cons (thn (he pins s σ H _ I h) fun u s1 ⟨x, H1, I1, rx, a, ex, la, q⟩ => ?_))
  subst ex
  obtain ⟨t, rfl⟩ := (show ∃ t, u = Value.str a t from rx)
  have hz : (100000 : Nat) ≤ sizeLine := by decide
  simp only [List.length_cons] at hl
  exact ⟨by rw [strLen_append]; omega, hs _ pins s1 σ H1 R (by rw [strLen_append]; omega) I1 q⟩
theorem pj_int (hv : PE X v ta) (hs : PJ X es t) : PJ X (.FormattedValue v (-1) none p2 :: es) (jInt ta t) := fun out pins s σ H R hl I h => by
  refine joinParts_consE (joinParts_cons (FormattedValue_plain (thn (hv pins s σ H _ I h) fun u s1 ⟨x, H1, I1, rx, i, ex, hi, q⟩ => ?_)))
  subst ex
  obtain ⟨t, rfl⟩ := (show ∃ t, u = Value.int i t from rx)
  have hz : (100000 : Nat) ≤ sizeLine := by decide
  simp only [List.length_cons] at hl
  have hlog : i.natAbs.log2 < 1000 := by
    by_cases z : i.natAbs = 0
    · rw [z]; decide
    · exact (Nat.log2_lt z).mpr hi
  have hlen : (Str.ofString (toString i)).length ≤ 1001 := by
    rw [PySem.ofString_length]
    exact int_text_length_le (by decide) hlog
  refine formatField_int_small (Nat.lt_trans hlog (by decide)) ⟨by rw [strLen_append]; omega, ?_⟩
  exact hs _ pins _ σ H1 R (by rw [strLen_append]; omega) ((I1.tok _).tok _) q
theorem pj_txt (hv : PE X v ta) (hs : PJ X es t) : PJ X (.FormattedValue v (-1) none p2 :: es) (jStr ta t) := fun out pins s σ H R hl I h => by
  refine joinParts_consE (joinParts_cons (FormattedValue_plain (thn (hv pins s σ H _ I h) fun u s1 ⟨x, H1, I1, rx, a, ex, la, q⟩ => ?_)))
  subst ex
  obtain ⟨t, rfl⟩ := (show ∃ t, u = Value.str a t from rx)
  have hz : (100000 : Nat) ≤ sizeLine := by decide
  simp only [List.length_cons] at hl
  refine formatField_str (fun t' tk => ⟨by rw [strLen_append]; omega, ?_⟩) (by omega)
  exact hs _ pins _ σ H1 R (by rw [strLen_append]; omega) (I1.tok _) q
theorem pe_fsN (h2 : ∃ a b r, es = a :: b :: r) (hs : PJ X es t) (hz : es.length ≤ 40 := by decide) : PE X (.JoinedStr es pos) (tFsN t) := by
  obtain ⟨a, b, r, rfl⟩ := h2
  intro pins s σ H Q I h
  refine JoinedStr_many ?_
  refine thn (hs Str.empty pins s σ H _ ?_ I h) fun u s' ⟨z, tk, H', eu, I', q⟩ => ⟨.str z, H', I', ⟨tk, eu⟩, q z⟩
  have l0 : Str.empty.length = 0 := rfl
  omega
end
theorem FunD.okX {P : Program} {w : World} {K : PySem.W.Frag} {mg : Str → Option Value} {base : Heap} {x qual : Str} {st : Stmt} {dV : Value} {f : Addr} {fd : FuncData} {N ps : List Str} {k : Nat} {sp : Sp} (F : FunD K x qual st dV f fd) (S : FnScope N ps (defScope st)) (len : ∀ vs H Q E, sp vs H Q E → vs.length = ps.length)
    (hbody : ∀ (cdv : Value) (A : Around) (outer : List Env) (s : Shared) (H : Hp) (vs : List V) (Q : VK) (E : XK), Room k (A.deeper (envOfC qual (defScope st) s.heap.objs.size f cdv)) → sp vs H Q E →
      ∃ t, PSs (cxOf (CX1 P w) P w K mg base N qual (defScope st) f cdv A outer s H E) (defBody st) t ∧ t { nx := fun _ H' => Q .non H', rt := Q } (start N vs) H) : FnOk P w K mg base (CX1 P w) (k + 1) f fd ps sp := by
  obtain ⟨oc, od, kV, doc, pm, an, cdv, ct, osl, rfl, lk, hcd⟩ := F.ex
  refine fn_of lk hcd S len fun A outer s H vs Q E hr hsp => ?_
  obtain ⟨t, h, q⟩ := hbody cdv A outer s H vs Q E hr hsp
  exact ⟨t, h, q⟩
/-- two lists of truths, the same -/
def rNeLB (K : PySem.W.Frag) : R2 := fun x y H Q => ∃ a b, ∃ bs : List Bool, x = .ref a ∧ y = .ref b ∧ SqL K H a (bs.map V.bl) ∧ SqL K H b (bs.map V.bl) ∧ Q (.bl false) H
open PySem.SeqAt in
theorem op_neLB {X : Cx} {K : PySem.W.Frag} (hu : X.A.units < cLine) (hK : X.K = K) : OpR X (compareOp .NotEq) (rNeLB K) := by
  subst hK
  rintro pins s σ H x y v u Q I rx ry ⟨a, b, bs, rfl, rfl, ha, hb, q⟩
  cases rx; cases ry
  obtain ⟨t1, r1, p1, _⟩ := I.list ha
  obtain ⟨t2, r2, p2, _⟩ := I.list hb
  have l1 := r1.length
  have l2 := r2.length
  refine RcNeAt.lists (e := fun _ => true) p1.isList p2.isList (by rw [List.size_toArray, List.size_toArray]; omega) hu (fun j h1 h2 => ?_) _ _ _ _ ⟨.bl false, H, I, ?_, q⟩
  · have g1 : j < t1.length := by simpa using h1
    have g2 : j < t2.length := by simpa using h2
    have ex : (bs.map V.bl)[j]? = some ((bs.map V.bl)[j]'(by omega)) := List.getElem?_eq_getElem (by omega)
    obtain ⟨v1, z1, rx⟩ := r1.get ex
    obtain ⟨v2, z2, ry⟩ := r2.get ex
    have q1 : t1.toArray[j] = v1 := by rw [List.getElem_toArray]; exact (List.getElem?_eq_some_iff.mp z1).2
    have q2 : t2.toArray[j] = v2 := by rw [List.getElem_toArray]; exact (List.getElem?_eq_some_iff.mp z2).2
    rw [q1, q2]
    obtain ⟨c, _, e⟩ := List.mem_map.mp (List.mem_of_getElem? ex)
    rw [← e] at rx ry
    cases rx; cases ry
    exact EqAt.same _
  · show _ = Value.bool false
    rw [show ((List.range t1.toArray.size).all fun _ => true) = true from List.all_eq_true.mpr fun _ _ => rfl]
    rfl
end L2

end

section
set_option Elab.async false
set_option linter.all false
set_option maxRecDepth 1000000
set_option maxHeartbeats 0
namespace Hd
open PySem PySem.W
noncomputable def runQ (p : Program) (w : World) (n₀ : Nat) (ann : Option Value) (N : Nat) : SharedT → Thread → Option SharedT :=
  @Nat.rec (fun _ => SharedT → Thread → Option SharedT) (fun _ _ => none) (fun _ ih s t => match through t with
    | true => some s
    | false => match Fast.tw6613529449190102663 n₀ ann t with
      | false => none
      | true => match Fast.tw10156331382660048174 (Fast.tw11892475500146522536 Fast.tw14364793385576792824) p w s t with
        | some (s', t') => ih s' t'
        | none => none) N
theorem run_of {p : Program} {w : World} {n₀ : Nat} {ann : Option Value} : ∀ {N : Nat} {s s' : SharedT} {t : Thread}, runQ p w n₀ ann N s t = some s' → topRun treeTable p w n₀ ann N s.abs t = some s'.abs
  | 0, s, s', t, h => by cases h
  | N + 1, s, s', t, h => by
    have h : (match through t with
    | true => some s
    | false => match Fast.tw6613529449190102663 n₀ ann t with
      | false => none
      | true => match Fast.tw10156331382660048174 (Fast.tw11892475500146522536 Fast.tw14364793385576792824) p w s t with
        | some (s', t') => runQ p w n₀ ann N s' t'
        | none => none) = some s' := h
    rw [← Fast.te6613529449190102663, ← Fast.te10156331382660048174, ← Fast.te11892475500146522536, ← Fast.te14364793385576792824] at h
    unfold topRun
    cases ht : through t with
    | true => rw [ht] at h; cases h; rfl
    | false =>
      rw [ht] at h
      cases hk : stepOk n₀ ann t with
      | false => rw [hk] at h; cases h
      | true =>
        rw [hk] at h
        cases hs : stepT (denote treeTable) p w s t with
        | none => rw [hs] at h; cases h
        | some r => obtain ⟨s₂, t₂⟩ := r; rw [hs] at h; dsimp only; rw [stepT_spec hs]; exact run_of h
/-- a tree of a list -/
noncomputable def treeL : List Obj → Nat → BT → BT := @List.rec Obj (fun _ => Nat → BT → BT) (fun _ t => t) (fun o _ ih n t => ih (n + 1) (t.ins n o))
noncomputable def bootT (P : Params) : BT := treeL (boot_heap P).objs.toList 0 .nil
theorem boot_abs (P : Params) : absHeap (bootT P) 11 (boot_heap P).life = boot_heap P := by kernel_rfl
theorem boot_size (P : Params) : ((boot_heap P).isNs mainGlobals && (Array.mk [] : Array GenState).size == 0, (boot_heap P).objs.size, (boot_heap P).nsMap mainGlobals "__annotations__") = (true, 11, some (.ref 6)) := by kernel_rfl
noncomputable def bootS (P : Params) (os : OsState) : SharedT := ⟨bootT P, 11, (boot_heap P).life, Array.mk [], boot_drawn, boot_toks, os⟩
noncomputable def getT (s : SharedT) (a : Addr) : Option Obj := match Nat.blt a s.n with
  | true => match s.tree.get a with
    | some o => alive o
    | none => none
  | false => none
theorem getT_of {s : SharedT} {a : Addr} {o : Obj} (h : getT s a = some o) : s.abs.heap.get? a = some o := by
  unfold getT at h
  cases e : Nat.blt a s.n with
  | false => rw [e] at h; cases h
  | true =>
    rw [e] at h
    cases g : s.tree.get a with
    | none => rw [g] at h; cases h
    | some x => rw [g] at h; exact (abs_get (Nat.le_of_ble_eq_true e) g).trans h
theorem getTs_of {s : SharedT} : ∀ {as : List Addr} {L : List (Nat × Obj)}, as.map (getT s) = L.map (fun p => some p.2) → as.map s.abs.heap.get? = L.map (fun p => some p.2)
  | [], [], _ => rfl
  | [], _ :: _, h => by cases h
  | _ :: _, [], h => by cases h
  | a :: as, p :: L, h => by
    obtain ⟨h1, h2⟩ := List.cons.inj h
    exact List.cons_eq_cons.mpr ⟨getT_of h1, getTs_of h2⟩
def SeenOk (p q : Program) (loose : List Str) (Xt : Shared → Bool) (N : Nat) (g0 : Bool) : Prop := ∀ (w : World) (os : OsState), (runQ p w 11 (some (.ref 6)) N (bootS w.params os) (topStub p)).map (fun s =>
      ((staticsOk (importedModules p.main.body) (boot_heap w.params) s.abs.heap && namesBound p s.abs.heap && gensDone s.abs && laidKept (boot_heap w.params) s.abs.heap), openSeen q loose (importedModules p.main.body) Xt g0 s.abs)) = some (true, openGood q loose)
/-- the head, by a run over trees at once -/
theorem left_of {p q : Program} {loose : List Str} {Xt : Shared → Bool} {K : Params → Frag} {as : List Addr} {ex : ∀ P, as = (K P).map (·.1)} {N : Nat} {g0 : Bool} (h : SeenOk p q loose Xt N g0) (e : opening p = plainProg p.main.scope.names) (f : ∀ s, fenceModules? p s = some s) (hN : Nat.ble 600 N = true)
    (hK : ∀ (w : World) (os : OsState), (runQ p w 11 (some (.ref 6)) N (bootS w.params os) (topStub p)).map (fun s => as.map (getT s)) = some ((K w.params).map fun p => some p.2)) :
    LeftO p q loose Xt (kHook K as ex).obs (kHook K as ex).val N g0 := fun w => by
  have ho := boot_open e hN f w
  obtain ⟨⟨hh, gs, d, k, os⟩, e1, e2⟩ := Option.map_eq_some_iff.mp ho
  obtain ⟨rfl, rfl, rfl, rfl⟩ : hh = boot_heap w.params ∧ gs = Array.mk [] ∧ d = boot_drawn ∧ k = boot_toks := by simpa using e2
  obtain ⟨z1, z2, z3⟩ : _ ∧ _ ∧ _ := by simpa only [Prod.mk.injEq] using boot_size w.params
  obtain ⟨s, r, l⟩ := Option.map_eq_some_iff.mp (h w os)
  obtain ⟨s', r', l'⟩ := Option.map_eq_some_iff.mp (hK w os)
  rw [r] at r'
  cases r'
  have l3 := getTs_of l'
  obtain ⟨l1, l2⟩ : _ ∧ _ := by simpa only [Prod.mk.injEq] using l
  have r := run_of r
  have ea : (bootS w.params os).abs = ⟨boot_heap w.params, Array.mk [], boot_drawn, boot_toks, os⟩ := by
    show (⟨absHeap (bootT w.params) 11 (boot_heap w.params).life, Array.mk [], boot_drawn, boot_toks, os⟩ : Shared) = _
    rw [boot_abs]
  rw [ea] at r
  have t : topFrom treeTable p w N ⟨boot_heap w.params, Array.mk [], boot_drawn, boot_toks, os⟩ = some s.abs := by
    unfold topFrom
    dsimp only
    rw [z1, z2, z3, r]
    show (match staticsOk (importedModules p.main.body) (boot_heap w.params) s.abs.heap && namesBound p s.abs.heap && gensDone s.abs && laidKept (boot_heap w.params) s.abs.heap with | true => _ | false => _) = _
    rw [l1]
  unfold openEnds
  rw [e1]
  show (topFrom treeTable p w N _).map _ = _
  rw [t]
  exact congrArg some (Prod.ext l2 l3)
end Hd

end

set_option Elab.async false
set_option linter.all false
set_option maxRecDepth 100000
set_option maxHeartbeats 8000000
namespace Cb
open PySem L2
def top (i : Nat) : Stmt := PySem.Challenge.pw_chipbus_k21_no_such_chip.main.body.getD i (.Pass ⟨0, 0, 0, 0⟩)
theorem bits_le {b : Int} {k : Nat} (h : b.natAbs < 2 ^ k) : Builtin.Int.intBits b ≤ k := by
  unfold Builtin.Int.intBits
  split
  · omega
  · rename_i h0
    have h1 : b.natAbs ≠ 0 := by first | omega | (intro z; simp_all)
    have := (Nat.log2_lt h1).mpr h
    omega
theorem mul_ok {a b : Int} (ha : a.natAbs < 2 ^ 200) (hb : b.natAbs < 2 ^ 200) : IntMulOk a b := IntMulOk.of_bits (Nat.le_trans (bits_le ha) (by decide)) (Nat.le_trans (bits_le hb) (by decide))
theorem log_ok {m : Int} (h : 0 < m) (h2 : m ≤ 2 ^ 64) : m.natAbs.log2 < 9000 := by
  have h1 : m.natAbs ≠ 0 := by omega
  exact Nat.lt_of_lt_of_le ((Nat.log2_lt h1).mpr (show m.natAbs < 2 ^ 65 by omega)) (by decide)
local macro_rules | `(tactic| walk_at "sd") => `(tactic| first | assumption | (exact ⟨by decide, by decide, by decide⟩) | (exact ⟨by assumption, by assumption⟩) | (exact ⟨by decide, by decide +kernel⟩) | (show (0 : Int) < _; decide))
local macro_rules | `(tactic| walk_at "hp") => `(tactic| first | assumption | exact upd_same)
local macro_rules | `(tactic| walk_at "vc") => `(tactic| repeat (first | refine ⟨_, rfl, ?_⟩ | refine ⟨_, _, rfl, rfl, ?_⟩ | refine ⟨_, _, rfl, ?_⟩ | refine ⟨_, _, _, _, rfl, rfl, SqL.of (by walk_at "hp"), rfl, ?_⟩ | refine ⟨_, _, _, _, rfl, rfl, (by walk_at "hp"), rfl, ?_⟩ | refine And.intro (by walk_at "sd") ?_))
theorem seq_step {t u : TS} {D : Ends} (S S' : St → Hp → Prop) (h1 : ∀ σ H, S σ H → ∀ N : St → Hp → Prop, (∀ σ' H', S' σ' H' → N σ' H') → t { D with nx := N } σ H) (h2 : ∀ σ' H', S' σ' H' → u D σ' H') : ∀ σ H, S σ H → tSeq t u D σ H :=
  fun σ H s => h1 σ H s _ h2
theorem ln0 {α : Type} {P : List α → Prop} (us : List α) (h : us.length = 0) (k : P []) : P us := by
  rw [List.eq_nil_of_length_eq_zero h]; exact k
theorem lnS {α : Type} {P : List α → Prop} {n : Nat} (us : List α) (h : us.length = n + 1) (k : ∀ a (r : List α), r.length = n → P (a :: r)) : P us := by
  cases us with
  | nil => cases h
  | cons a r => exact k a r (Nat.succ.inj h)
theorem ln1 {α : Type} {P : List α → Prop} (us : List α) (h : us.length = 1) (k : ∀ a, P [a]) : P us := lnS us h fun a r h => ln0 (P := fun r => P (a :: r)) r h (k a)
theorem ln2 {α : Type} {P : List α → Prop} (us : List α) (h : us.length = 2) (k : ∀ a b, P [a, b]) : P us := lnS us h fun a r h => ln1 (P := fun r => P (a :: r)) r h (k a)
theorem ln3 {α : Type} {P : List α → Prop} (us : List α) (h : us.length = 3) (k : ∀ a b c, P [a, b, c]) : P us := lnS us h fun a r h => ln2 (P := fun r => P (a :: r)) r h (k a)
theorem ln4 {α : Type} {P : List α → Prop} (us : List α) (h : us.length = 4) (k : ∀ a b c d, P [a, b, c, d]) : P us := lnS us h fun a r h => ln3 (P := fun r => P (a :: r)) r h (k a)
theorem ixN_nat {n c : Nat} (h : c < n) : ixN n (c : Int) = some c := by
  unfold ixN; rw [if_pos (by omega), if_pos (by omega)]; simp
theorem rep_flat1 {α : Type} (n : Nat) (x : α) : (List.replicate n [x]).flatten = List.replicate n x := by
  induction n with
  | zero => rfl
  | succ n ih => rw [List.replicate_succ, List.flatten_cons, ih, List.replicate_succ]; rfl
theorem ty_seq {K : PySem.W.Frag} {H : Hp} {t : Bool} {a : Addr} {xs : List V} (h : SqX t H a xs) : TyOf K H (.ref a) (.type (sqC t)) := by
  cases t with
  | true => exact .tup (xs := xs) h
  | false => exact .lst (xs := xs) h
theorem same_mk {H : Hp} {x dx : Addr} {o1 o2 : HO} (hx : H x = none) (hdx : H dx = none) : Same H (upd (upd H dx o1) x o2) := fun b u e => by
  rw [upd_ne (ne_of_none e hx), upd_ne (ne_of_none e hdx)]; exact e
theorem mk_same {H H' : Hp} {x dx : Addr} {o1 o2 : HO} (hx : H x = none) (hdx : H dx = none) (k : KeepP x (upd (upd H dx o1) x o2) H') : Same H H' := fun b u e => k b u (ne_of_none e hx) (same_mk hx hdx _ _ e)
theorem at_heap {P : Hp → Prop} {Hr : Hp} (R : Hp → Prop) (hr : R Hr) (h : ∀ H', R H' → P H') : P Hr := h _ hr
theorem next_of {D : Ends} {σ : St} {H : Hp} (h : D.nx σ H) : tNext D σ H := h
theorem BagAt.upd {H : Hp} {p q : Addr} {n : Nat} {o : HO} (h : BagAt H p n) (hq : q ≠ p) : BagAt (upd H q o) p n := by
  obtain ⟨a, b, c, e, r⟩ := h
  exact ⟨a, b, c, by rw [upd_ne (Ne.symm hq)]; exact e, r⟩
/-! ### chips that may be refused -/
def spMkSX (C CT : Addr) : Sp := fun vs H Q E => ∃ a dx, ∃ n v : Int, vs = [.ref a, .int n, .int v] ∧ n.natAbs < 2 ^ 1000 ∧ v.natAbs < 2 ^ 1000 ∧ H a = some (.ins C dx []) ∧
  (∀ m : Nat, n = (m : Int) → 1 ≤ m → m ≤ 4096 → 0 ≤ v → v ≤ 255 → NewOb C H a (List.replicate m (.int v)) Q) ∧ (¬ (1 ≤ n ∧ n ≤ 4096 ∧ 0 ≤ v ∧ v ≤ 255) → ∀ H', Same H H' → E (.ref CT) none H')
def spMk1X (C CT : Addr) : Sp := fun vs H Q E => ∃ a dx, ∃ v : Int, vs = [.ref a, .int v] ∧ v.natAbs < 2 ^ 1000 ∧ H a = some (.ins C dx []) ∧
  (0 ≤ v → v ≤ 255 → NewOb C H a [.int v] Q) ∧ (¬ (0 ≤ v ∧ v ≤ 255) → ∀ H', Same H H' → E (.ref CT) none H')
def wOk (ns : List Int) : Prop := ∀ x ∈ ns, 0 ≤ x ∧ x ≤ 255
def spMkFX (C CT : Addr) : Sp := fun vs H Q E => ∃ a dx l, ∃ ns : List Int, vs = [.ref a, .ref l] ∧ H l = some (.lst (ns.map V.int)) ∧ ns.length ≤ 5000 ∧ H a = some (.ins C dx []) ∧
  (1 ≤ ns.length → ns.length ≤ 4096 → wOk ns → NewOb C H a (ns.map V.int) Q) ∧ (¬ (1 ≤ ns.length ∧ ns.length ≤ 4096 ∧ wOk ns) → ∀ H', Same H H' → E (.ref CT) none H')
def spMkPX (C CT : Addr) : Sp := fun vs H Q E => ∃ a dx, ∃ r : Int, vs = [.ref a, .int r] ∧ r.natAbs < 2 ^ 1000 ∧ H a = some (.ins C dx []) ∧
  (1 ≤ r → r ≤ 255 → ∀ (p : Addr) (H' : Hp), H p = none → Ob C H' a p [] [("room", .int r)] → KeepP a H H' → Q .non H') ∧ (¬ (1 ≤ r ∧ r ≤ 255) → ∀ H', Same H H' → E (.ref CT) none H')
def wOkB (ns : List Int) : Bool := ns.all fun x => decide (0 ≤ x ∧ x ≤ 255)
theorem wOkB_iff {ns : List Int} : wOkB ns = true ↔ wOk ns := by
  unfold wOkB wOk
  rw [List.all_eq_true]
  exact ⟨fun h x hx => of_decide_eq_true (h x hx), fun h x hx => decide_eq_true (h x hx)⟩
def spBig : Sp := fun vs H Q _ => ∃ (p : Addr) (n : Nat), vs = [.ref p] ∧ BagAt H p n ∧ n + 10 < 2 ^ 30 ∧ ∀ (r : Int) (H' : Hp), r.natAbs < 2 ^ 64 → BagAt H' p (n + 10) → KeepP p H H' → Q (.int r) H'
def spNearC : Sp := fun vs H Q _ => ∃ (p : Addr) (m n : Nat), vs = [.ref p, .int (m : Int)] ∧ 1 ≤ m ∧ m ≤ 5000 ∧ BagAt H p n ∧ n + 20 < 2 ^ 30 ∧ ∀ (r : Int) (H' : Hp), r.natAbs < 2 ^ 64 → BagAt H' p (n + 20) → KeepP p H H' → Q (.int r) H'
def spWordsC : Sp := fun vs H Q _ => ∃ (p : Addr) (n : Nat), vs = [.ref p] ∧ BagAt H p n ∧ n + 50 < 2 ^ 30 ∧ ∀ (l : Addr) (ns : List Int) (H' : Hp), H l = none → H' l = some (.lst (ns.map V.int)) → ns.length ≤ 4097 → (∀ x ∈ ns, x.natAbs < 2 ^ 64) → BagAt H' p (n + 50) → KeepP p H H' → Q (.ref l) H'
def kdN : Nat → Str
  | 0 => "store"
  | 1 => "fixed"
  | 2 => "latch"
  | 3 => "meter"
  | _ => "pipe"
/-- what is asked for -/
structure Ask (kd : Nat) (many : Int) (row : List Int) : Prop where
  kd5 : kd < 5
  one : kd = 0 ∨ kd = 2 ∨ kd = 3 → ∃ x, row = [x]
  pip : kd = 4 → row = []
  mb : many.natAbs < 2 ^ 64
  rb : ∀ x ∈ row, x.natAbs < 2 ^ 64
  rl : row.length ≤ 4097
structure Good (kd : Nat) (many : Int) (row : List Int) : Prop where
  ws : wOk row
  st : kd = 0 → 1 ≤ many ∧ many ≤ 4096
  fx : kd = 1 → 1 ≤ row.length ∧ row.length ≤ 4096
  pp : kd = 4 → 1 ≤ many ∧ many ≤ 255
def due21 (kd : Nat) (many : Int) (row : List Int) : List Int := if kd = 0 then List.replicate many.toNat (row.headD 0) else row
def spWanted : Sp := fun vs H Q _ => ∃ (p : Addr) (n : Nat), vs = [.ref p] ∧ BagAt H p n ∧ n + 100 < 2 ^ 30 ∧ ∀ (t l : Addr) (kd : Nat) (many : Int) (row : List Int) (H' : Hp), Ask kd many row → l ≠ p → H' t = some (.tup [.str (kdN kd), .int many, .ref l]) → H' l = some (.lst (row.map V.int)) → BagAt H' p (n + 100) → KeepP p H H' → Q (.ref t) H'
def spMade21 (cs : Nat → Addr) (CT : Addr) : Sp := fun vs H Q E => ∃ (kd : Nat) (many : Int) (l : Addr) (row : List Int) (nm : Bool), vs = [.str (kdN kd), .int many, .ref l, .bl nm] ∧ Ask kd many row ∧ H l = some (.lst (row.map V.int)) ∧
  (Good kd many row → ∀ (a p : Addr) (ext : List (Str × V)) (H' : Hp), Ob (cs kd) H' a p ((due21 kd many row).map V.int) ext → Same H H' → Q (.ref a) H') ∧ (¬ Good kd many row → ∀ H', Same H H' → E (.ref CT) none H')
def mkNC : List Bool := [true, false, true, false, false, false, false, false, false, false, false, false]
def spAsked21 (cs : Nat → Addr) : Sp := fun vs H Q _ => ∃ (kd : Nat) (many : Int) (l : Addr) (row : List Int) (nm : Bool), vs = [.str (kdN kd), .int many, .ref l, .bl nm] ∧ Ask kd many row ∧ H l = some (.lst (row.map V.int)) ∧
  (Good kd many row → ∀ (t mk a p : Addr) (ext : List (Str × V)) (H' : Hp), H' t = some (.tup [.ref mk, .ref a]) → H' mk = some (.lst []) → Ob (cs kd) H' a p ((due21 kd many row).map V.int) ext → Same H H' → Q (.ref t) H') ∧
  (¬ Good kd many row → ∀ (t mk : Addr) (H' : Hp), H' t = some (.tup [.ref mk, .non]) → H' mk = some (.lst (mkNC.map V.bl)) → Same H H' → Q (.ref t) H')
def xNames : List Str := ["TooMany", "NoChip", "NoCell", "NoMap", "NoWatch", "NoMover", "NoText", "NoWord", "NoAddress", "Clash", "BadRow"]
def onlyL (due : Str) : List Bool := true :: xNames.map fun n => decide (V.str n = V.str due)
theorem only_nc : onlyL "NoChip" = mkNC := by decide
def spOnly : Sp := fun vs H Q _ => ∃ due : Str, vs = [.str due] ∧ ∀ (l : Addr) (H' : Hp), H' l = some (.lst ((onlyL due).map V.bl)) → Same H H' → Q (.ref l) H'
def spGood : Sp := fun vs H Q _ => ∃ (kd : Nat) (many : Int) (l : Addr) (row : List Int), vs = [.str (kdN kd), .int many, .ref l] ∧ Ask kd many row ∧ H l = some (.lst (row.map V.int)) ∧ (Good kd many row → ∀ H', Same H H' → Q (.bl true) H') ∧ (¬ Good kd many row → ∀ H', Same H H' → Q (.bl false) H')
def spStands (cs : Nat → Addr) : Sp := fun vs H Q _ => ∃ (kd : Nat) (many : Int) (l a p : Addr) (row : List Int) (ext : List (Str × V)), vs = [.ref a, .str (kdN kd), .int many, .ref l] ∧ Ask kd many row ∧ Good kd many row ∧ H l = some (.lst (row.map V.int)) ∧ Ob (cs kd) H a p ((due21 kd many row).map V.int) ext ∧ ∀ H', Same H H' → Q (.bl true) H'
def k2n {α : Type} (us zs : List α) : List α := match us, zs with
  | [a], [b, c] => [a, b, c]
  | _, _ => []
theorem Vals.k2n {vs zs : List V} {us ws : List Value} (g : Vals vs us) (h : Vals zs ws) : Vals (k2n vs zs) (k2n us ws) := by
  cases g with
  | nil => cases h <;> exact .nil
  | cons a r => cases r with
    | cons _ _ => cases h <;> exact .nil
    | nil => cases h with
      | nil => exact .nil
      | cons b r => cases r with
        | nil => exact .nil
        | cons c r => cases r with
          | nil => exact .cons a (.cons b (.cons c .nil))
          | cons _ _ => exact .nil
theorem iteD1 {b : Bool} {A B : Prop} (e : b = true) (h : A) : if b = true then A else B := by rw [if_pos e]; exact h
theorem iteD0 {b : Bool} {A B : Prop} (e : b = false) (h : B) : if b = true then A else B := by subst e; exact iteF h
theorem ask_lt {n : Int} (h : n.natAbs < 2 ^ 64) : n.natAbs < 2 ^ 1000 := Nat.lt_of_lt_of_le h (by decide)
theorem due_store {many : Int} {m : Nat} {x : Int} (e : many = (m : Int)) : (due21 0 many [x]).map V.int = List.replicate m (.int x) := by
  subst e
  show (List.replicate ((m : Int).toNat) x).map V.int = _
  rw [List.map_replicate, Int.toNat_natCast]
theorem wOk_succ {row : List Int} {i : Nat} {n : Int} (h : row[i]? = some n) : wOk (row.take (i + 1)) ↔ wOk (row.take i) ∧ 0 ≤ n ∧ n ≤ 255 := by
  rw [List.take_succ, h]
  show (∀ x ∈ row.take i ++ [n], _) ↔ _
  constructor
  · intro h1
    exact ⟨fun x hx => h1 x (List.mem_append_left _ hx), h1 n (List.mem_append_right _ (List.mem_singleton.mpr rfl))⟩
  · rintro ⟨h1, h2⟩ x hx
    rcases List.mem_append.mp hx with h3 | h3
    · exact h1 x h3
    · rw [List.mem_singleton.mp h3]; exact h2
theorem good_iff {kd : Nat} {many : Int} {row : List Int} : Good kd many row ↔ wOk row ∧ (kd = 0 → 1 ≤ many ∧ many ≤ 4096) ∧ (kd = 1 → 1 ≤ row.length ∧ row.length ≤ 4096) ∧ (kd = 4 → 1 ≤ many ∧ many ≤ 255) :=
  ⟨fun g => ⟨g.ws, g.st, g.fx, g.pp⟩, fun ⟨a, b, c, d⟩ => ⟨a, b, c, d⟩⟩
def lenK (kd : Nat) : List V → Nat := if kd = 4 then (fun _ => 2) else List.length
theorem due_len {kd : Nat} {many : Int} {row : List Int} (ha : Ask kd many row) (hg : Good kd many row) : (due21 kd many row).length ≤ 4096 := by
  unfold due21
  split
  · rename_i h; rw [List.length_replicate]; have := hg.st h; omega
  · rename_i h
    rcases (show kd = 1 ∨ kd = 2 ∨ kd = 3 ∨ kd = 4 by have := ha.kd5; omega) with rfl | rfl | rfl | rfl
    · exact (hg.fx rfl).2
    · obtain ⟨x, rfl⟩ := ha.one (.inr (.inl rfl)); show 1 ≤ 4096; decide
    · obtain ⟨x, rfl⟩ := ha.one (.inr (.inr rfl)); show 1 ≤ 4096; decide
    · obtain rfl := ha.pip rfl; show 0 ≤ 4096; decide
theorem rep_flatI (m : Nat) (x : Int) : ((List.replicate m [V.int x]).flatten : List V) = (List.replicate m x).map V.int := by
  rw [List.map_replicate]
  induction m with
  | zero => rfl
  | succ n ih => rw [List.replicate_succ, List.flatten_cons, ih]; rfl
theorem lk_ints {H : Hp} {a b : Addr} {ns : List Int} (ha : H a = some (.tup (ns.map V.int))) (hb : H b = some (.tup (ns.map V.int))) (hz : ns.length ≤ 4096) : Lk H 1 (.ref a) (.ref b) := by
  refine .seq (t := true) ha hb rfl (by rw [List.length_map]; exact Nat.le_trans hz (by decide)) fun i x y h1 h2 => ?_
  rw [h1] at h2
  obtain rfl := Option.some.inj h2
  rw [List.getElem?_map] at h1
  obtain ⟨n, _, rfl⟩ := Option.map_eq_some_iff.mp h1
  exact .int n
theorem bits63 : ∀ n : Fin 64, Builtin.Int.intBits ((n.val : Nat) : Int) ≤ 2 ^ 20 := by decide +kernel
theorem cut_memR {xs : List V} {lo hi : Option Int} {x : V} (h : x ∈ cutV xs lo hi) : x ∈ xs := List.mem_of_mem_drop (List.mem_of_mem_take h)
def csOf (a b c d e : Addr) : Nat → Addr
  | 0 => a
  | 1 => b
  | 2 => c
  | 3 => d
  | _ => e
theorem strKey {v : Value} (h : (match v with | .str _ _ => true | _ => false) = true) : ∃ n t, v = .str n t := by
  cases v with
  | str n t => exact ⟨n, t, rfl⟩
  | _ => cases h

structure Nums (mg : Str → Option Value) : Prop where
  LAST_WORD : ∃ t, mg "LAST_WORD" = some (.int 255 t)
  MOST_CELLS : ∃ t, mg "MOST_CELLS" = some (.int 4096 t)
  MOST_ROOM : ∃ t, mg "MOST_ROOM" = some (.int 255 t)
  SIXTEEN : ∃ t, mg "SIXTEEN" = some (.str "0123456789abcdef" t)
abbrev sis_number : Stmt := top 19
theorem scis_number : FnScope ["thing", "last"] ["thing", "last"] (defScope sis_number) := ⟨rfl, rfl, rfl, by decide +kernel, rfl, by decide +kernel, by decide +kernel⟩
section
variable {P : Program} {w : World} {K : PySem.W.Frag} {mg : Str → Option Value} {base : Heap}
theorem okis_number {f : Addr} {fd : FuncData} (F : Fun K "is_number" "is_number" sis_number f fd) (T : Blt mg) : FnOk P w K mg base CX0 1 f fd ["thing", "last"] spIsNum := by
  refine F.ok scis_number (fun vs H Q E h => ?_) (fun cdv A outer s H vs Q E hr h => ?_)
  · obtain ⟨a, b, rfl, _⟩ := h; rfl
  · obtain ⟨a, b, rfl, k⟩ := h
    refine ⟨_, (pss_one (ps_ret (pe_and (pe_callB (call_isT "int" (K := K) rfl) (by rfl) T.isinstance bt_isi (pa_cons (pv 0) (pa_cons (pe_bltn rfl T.int bt_int rl_int) pa_nil))) (pe_and (pe_not (pe_callB (call_isT "bool" (K := K) rfl) (by rfl) T.isinstance bt_isi (pa_cons (pv 0) (pa_cons (pe_bltn rfl T.bool bt_bool rl_bool) pa_nil)))) (pe_one (pe_chain op_le op_le pe_int (pv 0) (pv 1))))))), ?rd⟩
    refine ⟨_, rfl, _, _, _, rfl, .int a, rfl, true, rfl, iteT ?_⟩
    refine ⟨_, rfl, _, _, _, rfl, .int a, rfl, false, rfl, true, rfl, iteT ?_⟩
    refine ⟨_, rfl, _, _, rfl, rfl, _, rfl, ite2 (fun h => ?_) (fun h => ?_)⟩
    · have h := of_decide_eq_true h
      refine ⟨_, rfl, _, _, rfl, rfl, ?_⟩
      rw [show decide (0 ≤ a ∧ a ≤ b) = decide (a ≤ b) from decide_eq_decide.mpr ⟨fun z => z.2, fun z => ⟨h, z⟩⟩] at k
      exact k
    · have h : ¬ 0 ≤ a := fun z => h (decide_eq_true z)
      rw [show decide (0 ≤ a ∧ a ≤ b) = false from decide_eq_false fun z => h z.1] at k
      exact k
end
abbrev sis_word : Stmt := top 20
theorem scis_word : FnScope ["thing"] ["thing"] (defScope sis_word) := ⟨rfl, rfl, rfl, by decide +kernel, rfl, by decide +kernel, by decide +kernel⟩
section
variable {P : Program} {w : World} {K : PySem.W.Frag} {mg : Str → Option Value} {base : Heap}
theorem okis_word {f : Addr} {fd : FuncData} (F : Fun K "is_word" "is_word" sis_word f fd) (T : Blt mg) (N : Nums mg) (Gis_number : Cal P w K mg base 1 "is_number" ["thing", "last"] spIsNum) : FnOk P w K mg base CX0 2 f fd ["thing"] spIsWord := by
  refine F.ok scis_word (fun vs H Q E h => ?_) (fun cdv A outer s H vs Q E hr h => ?_)
  · obtain ⟨a, rfl, _⟩ := h; rfl
  · obtain ⟨a, rfl, k⟩ := h
    refine ⟨_, (pss_one (ps_ret (pe_cal Gis_number (hr.mono (by first | decide | omega)) rfl (pa_cons (pv 0) (pa_cons (pe_globI rfl N.LAST_WORD) pa_nil))))), ?rd⟩
    exact ⟨_, rfl, a, 255, rfl, k⟩
end
abbrev sChip___init__ : Stmt := inClass (top 25) 0
theorem scChip___init__ : FnScope ["self", "head", "held"] ["self", "head", "held"] (defScope sChip___init__) := ⟨rfl, rfl, rfl, by decide +kernel, rfl, by decide +kernel, by decide +kernel⟩
section
variable {P : Program} {w : World} {K : PySem.W.Frag} {mg : Str → Option Value} {base : Heap}
theorem okChip___init__ {f : Addr} {fd : FuncData} (F : Fun K "__init__" "Chip.__init__" sChip___init__ f fd) (T : Blt mg) : FnOk P w K mg base CX0 1 f fd ["self", "head", "held"] (spInit K) := by
  refine F.ok scChip___init__ (fun vs H Q E h => ?_) (fun cdv A outer s H vs Q E hr h => ?_)
  · obtain ⟨a, C, dx, p, hd, rfl, _⟩ := h; rfl
  · obtain ⟨a, C, dx, p, hd, rfl, ha, c, k⟩ := h
    refine ⟨_, (pss_cons (ps_fld (pv 0) (pv 1) rfl)
      (pss_one (ps_fld (pv 0) (pv 2) rfl))), ?rd⟩
    refine ⟨_, rfl, _, rfl, a, C, dx, _, rfl, ha, c.cl, c.head, by show 0 < 1000; decide, ?_⟩
    refine ⟨_, rfl, _, rfl, a, C, dx, _, rfl, upd_same, c.cl, c.held, by show 1 < 1000; decide, ?_⟩
    exact k _ upd_same fun b hb => by rw [upd_ne hb, upd_ne hb]
end
abbrev sby_figures : Stmt := top 15
theorem scby_figures : FnScope ["number", "many", "text", "place"] ["number", "many"] (defScope sby_figures) := ⟨rfl, rfl, rfl, by decide +kernel, rfl, by decide +kernel, by decide +kernel⟩
section
variable {P : Program} {w : World} {K : PySem.W.Frag} {mg : Str → Option Value} {base : Heap}
/-! ### pipes -/
def FIG : Str := "0123456789abcdef"
def figc (k : Nat) : Nat := (FIG.cps.toList[k]?).getD 0
def fig2 (n : Nat) : Str := (⟨#[figc (n / 16)]⟩ : Str) ++ (⟨#[figc (n % 16)]⟩ : Str)
def phead (r : Nat) : Str := Str.empty ++ ("pipe " : Str) ++ fig2 r
theorem fig_at {k : Nat} (h : k < 16) : atI FIG.cps.toList (k : Int) = some (figc k) := by
  have e : FIG.cps.toList.length = 16 := by decide
  refine atI_nat ?_
  unfold figc
  rw [List.getElem?_eq_getElem (by omega)]
  rfl
/-- a pipe of room r with the words ws in it -/
structure ObP (C : Addr) (H : Hp) (a p : Addr) (r : Nat) (ws : List Nat) : Prop where
  ex : ∃ dx, H a = some (.ins C dx [("head", .str (phead r)), ("held", .ref p), ("room", .int (r : Int))])
  ls : H p = some (.lst (vN ws))
def two (_ : List V) : Nat := 2
def sp2fig : Sp := fun vs H Q _ => ∃ n : Nat, vs = [.int (n : Int)] ∧ n ≤ 255 ∧ Q (.str (fig2 n)) H
def spMkP (C : Addr) : Sp := fun vs H Q _ => ∃ a dx, ∃ r : Nat, vs = [.ref a, .int (r : Int)] ∧ 1 ≤ r ∧ r ≤ 255 ∧ H a = some (.ins C dx []) ∧ ∀ (p : Addr) (H' : Hp), H p = none → ObP C H' a p r [] → KeepP a H H' → Q .non H'
def spPLook (C : Addr) : Sp := fun vs H Q _ => ∃ a p, ∃ r : Nat, ∃ ws : List Nat, ∃ c : Int, vs = [.ref a, .int c] ∧ ObP C H a p r ws ∧ ((c = 0 ∧ Q (.int ((ws.headD 0 : Nat) : Int)) H) ∨ (c = 1 ∧ Q (.int (ws.length : Int)) H))
def spPRead (C : Addr) : Sp := fun vs H Q _ => ∃ a p, ∃ r : Nat, ∃ ws : List Nat, ∃ c : Int, vs = [.ref a, .int c] ∧ ObP C H a p r ws ∧ ((c = 0 ∧ Q (.int ((ws.headD 0 : Nat) : Int)) (upd H p (.lst (vN (ws.drop 1))))) ∨ (c = 1 ∧ Q (.int (ws.length : Int)) H))
def spPWrite (C : Addr) : Sp := fun vs H Q _ => ∃ a p, ∃ r : Nat, ∃ ws : List Nat, ∃ c : Int, ∃ v : Nat, vs = [.ref a, .int c, .int (v : Int)] ∧ ObP C H a p r ws ∧ v ≤ 255 ∧ ws.length ≤ 1000 ∧
  ((c = 0 ∧ ((ws.length < r ∧ Q .non (upd H p (.lst (vN (ws ++ [v]))))) ∨ (¬ ws.length < r ∧ Q .non H))) ∨ (c = 1 ∧ Q .non (upd H p (.lst (vN [])))))
def spPEq (C : Addr) : Sp := fun vs H Q _ => ∃ a b p q, ∃ r : Nat, ∃ ws us : List Nat, vs = [.ref a, .ref b] ∧ ObP C H a p r ws ∧ ObP C H b q r us ∧ Q (.bl (decide (ws = us))) H
def spByFig : Sp := fun vs H Q _ => ∃ n : Nat, vs = [.int (n : Int), .int 2] ∧ n ≤ 255 ∧ Q (.str (fig2 n)) H
def figs (n : Nat) : Nat → Str
  | 0 => ("" : Str)
  | 1 => (⟨#[figc (n % 16)]⟩ : Str) ++ ("" : Str)
  | _ => (⟨#[figc (n / 16)]⟩ : Str) ++ ((⟨#[figc (n % 16)]⟩ : Str) ++ ("" : Str))
theorem and15 (n : Nat) : n &&& 15 = n % 16 := Nat.and_two_pow_sub_one_eq_mod n 4
theorem okby_figures {f : Addr} {fd : FuncData} (F : Fun K "by_figures" "by_figures" sby_figures f fd) (T : Blt mg) (N : Nums mg) : FnOk P w K mg base CX0 1 f fd ["number", "many"] spByFig := by
  refine F.ok scby_figures (fun vs H Q E h => ?_) (fun cdv A outer s H vs Q E hr h => ?_)
  · obtain ⟨n, rfl, _⟩ := h; rfl
  · obtain ⟨n, rfl, hn, k⟩ := h
    refine ⟨_, (pss_cons (ps_set (i := 2) scby_figures.nd rfl (Or.inl rfl) pe_str)
      (pss_cons (ps_for PassesOwn.never rfl (pi_range1 rfl T.range (pa_cons (pv 1) pa_nil)) (pg_name (i := 3) scby_figures.nd rfl (Or.inl rfl))
      (pss_one (ps_set (i := 2) scby_figures.nd rfl (Or.inl rfl) (pe_op op_add_str (pe_ix ix_str (pe_globS rfl N.SIXTEEN) (pe_op op_and (pe_op op_shr (pv 0) (pe_op op_mulB pe_int (pv 3))) pe_int) (fun _ _ => rfl)) (pv 2)))))
      (pss_one (ps_ret (pv 2))))), ?rd⟩
    refine ⟨_, rfl, 2, rfl, by decide, by decide, ?_⟩
    refine for_range (n := 2) (fun i σ H2 => ∃ v3, σ = [some (.int (n : Int)), some (.int 2), some (.str (figs n i)), v3] ∧ H2 = H) ⟨none, rfl, rfl⟩ ?_ ?_
    · rintro i σ H2 hi ⟨v3, rfl, rfl⟩
      rcases (show i = 0 ∨ i = 1 by omega) with rfl | rfl
      · refine ⟨_, rfl, _, rfl, _, _, rfl, rfl, mul_ok (by decide) (by decide), _, _, rfl, rfl, (show (0 : Int) ≤ 4 * (0 + ((0 : Nat) : Int)) by decide), _, _, rfl, rfl, FIG, ((n % 16 : Nat) : Int), _, rfl, congrArg V.int ?_, by decide, fig_at (by omega), ?_⟩
        · show Builtin.bitAnd ((n : Int) / 1) ((15 : Nat) : Int) = _
          rw [Int.ediv_one, band, and15]
        · exact ⟨_, rfl, _, _, rfl, rfl, by show 1 + 0 ≤ sizeLine; decide, ⟨_, rfl, rfl⟩⟩
      · refine ⟨_, rfl, _, rfl, _, _, rfl, rfl, mul_ok (by decide) (by decide), _, _, rfl, rfl, (show (0 : Int) ≤ 4 * (0 + ((1 : Nat) : Int)) by decide), _, _, rfl, rfl, FIG, ((n / 16 : Nat) : Int), _, rfl, congrArg V.int ?_, by decide, fig_at (by omega), ?_⟩
        · have e : (n : Int) / 2 ^ (4 * (0 + ((1 : Nat) : Int))).toNat = ((n / 16 : Nat) : Int) := by
            show (n : Int) / 16 = _
            omega
          show Builtin.bitAnd ((n : Int) / 2 ^ (4 * (0 + ((1 : Nat) : Int))).toNat) ((15 : Nat) : Int) = _
          rw [e, band, and15, Nat.mod_eq_of_lt (by omega)]
        · exact ⟨_, rfl, _, _, rfl, rfl, by show 1 + 1 ≤ sizeLine; decide, ⟨_, rfl, rfl⟩⟩
    · rintro σ H2 ⟨v3, rfl, rfl⟩
      exact ⟨_, rfl, k⟩
end
abbrev stwo_figures : Stmt := top 16
theorem sctwo_figures : FnScope ["word"] ["word"] (defScope stwo_figures) := ⟨rfl, rfl, rfl, by decide +kernel, rfl, by decide +kernel, by decide +kernel⟩
section
variable {P : Program} {w : World} {K : PySem.W.Frag} {mg : Str → Option Value} {base : Heap}
theorem oktwo_figures {f : Addr} {fd : FuncData} (F : Fun K "two_figures" "two_figures" stwo_figures f fd) (T : Blt mg) (Gby_figures : Cal P w K mg base 1 "by_figures" ["number", "many"] spByFig) : FnOk P w K mg base CX0 2 f fd ["word"] sp2fig := by
  refine F.ok sctwo_figures (fun vs H Q E h => ?_) (fun cdv A outer s H vs Q E hr h => ?_)
  · obtain ⟨n, rfl, _⟩ := h; rfl
  · obtain ⟨n, rfl, hn, k⟩ := h
    refine ⟨_, (pss_one (ps_ret (pe_cal Gby_figures (hr.mono (by first | decide | omega)) rfl (pa_cons (pv 0) (pa_cons pe_int pa_nil))))), ?rd⟩
    exact ⟨_, rfl, n, rfl, hn, k⟩
end
abbrev sChip___len__ : Stmt := inClass (top 25) 1
theorem scChip___len__ : FnScope ["self"] ["self"] (defScope sChip___len__) := ⟨rfl, rfl, rfl, by decide +kernel, rfl, by decide +kernel, by decide +kernel⟩
section
variable {P : Program} {w : World} {K : PySem.W.Frag} {mg : Str → Option Value} {base : Heap}
theorem okChip___len__ {f C : Addr} {fd : FuncData} (F : Fun K "__len__" "Chip.__len__" sChip___len__ f fd) (T : Blt mg) (c : ClsOk K C) : FnOk P w K mg base CX0 1 f fd ["self"] (spLen C List.length) := by
  refine F.ok scChip___len__ (fun vs H Q E h => ?_) (fun cdv A outer s H vs Q E hr h => ?_)
  · obtain ⟨a, p, ws, ext, rfl, _⟩ := h; rfl
  · obtain ⟨a, p, ws, ext, rfl, o, k⟩ := h
    refine ⟨_, (pss_one (ps_ret (pe_callB call_len_seq (by rfl) T.len PySem.boot_len (pa_cons (pe_fld (pv 0) rfl) pa_nil)))), ?rd⟩
    obtain ⟨⟨dx, hd, e⟩, l, nn⟩ := o
    exact ⟨_, rfl, a, C, dx, _, _, rfl, e, c.cl, c.held, rfl, p, ws, rfl, .inl (SqL.of l), k⟩
end
abbrev sChip_state : Stmt := inClass (top 25) 4
theorem scChip_state : FnScope ["self"] ["self"] (defScope sChip_state) := ⟨rfl, rfl, rfl, by decide +kernel, rfl, by decide +kernel, by decide +kernel⟩
section
variable {P : Program} {w : World} {K : PySem.W.Frag} {mg : Str → Option Value} {base : Heap}
theorem okChip_state {f C : Addr} {fd : FuncData} (F : Fun K "state" "Chip.state" sChip_state f fd) (T : Blt mg) (c : ClsOk K C) : FnOk P w K mg base CX0 1 f fd ["self"] (spState C) := by
  refine F.ok scChip_state (fun vs H Q E h => ?_) (fun cdv A outer s H vs Q E hr h => ?_)
  · obtain ⟨a, p, ws, ext, rfl, _⟩ := h; rfl
  · obtain ⟨a, p, ws, ext, rfl, o, k⟩ := h
    refine ⟨_, (pss_one (ps_ret (pe_callTy call_tuple_of (by rfl) T.tuple bt_tuple (pa_cons (pe_fld (pv 0) rfl) pa_nil)))), ?rd⟩
    obtain ⟨⟨dx, hd, e⟩, l, nn⟩ := o
    exact ⟨_, rfl, a, C, dx, _, _, rfl, e, c.cl, c.held, rfl, p, ws, rfl, .inl ⟨SqL.of l, k⟩⟩
end
abbrev sPipe___len__ : Stmt := inClass (top 30) 1
theorem scPipe___len__ : FnScope ["self"] ["self"] (defScope sPipe___len__) := ⟨rfl, rfl, rfl, by decide +kernel, rfl, by decide +kernel, by decide +kernel⟩
section
variable {P : Program} {w : World} {K : PySem.W.Frag} {mg : Str → Option Value} {base : Heap}
theorem okPipe___len__ {f C : Addr} {fd : FuncData} (F : Fun K "__len__" "Pipe.__len__" sPipe___len__ f fd) (T : Blt mg) (c : ClsOk K C) : FnOk P w K mg base CX0 1 f fd ["self"] (spLen C two) := by
  refine F.ok scPipe___len__ (fun vs H Q E h => ?_) (fun cdv A outer s H vs Q E hr h => ?_)
  · obtain ⟨a, p, ws, ext, rfl, _⟩ := h; rfl
  · obtain ⟨a, p, ws, ext, rfl, o, k⟩ := h
    refine ⟨_, (pss_one (ps_ret pe_int)), ?rd⟩
    exact k
end
abbrev sStore___init__ : Stmt := inClass (top 26) 0
theorem scStore___init__ : FnScope ["self", "cells", "word"] ["self", "cells", "word"] (defScope sStore___init__) := ⟨rfl, rfl, rfl, by decide +kernel, rfl, by decide +kernel, by decide +kernel⟩
section
variable {P : Program} {w : World} {K : PySem.W.Frag} {mg : Str → Option Value} {base : Heap}
theorem okStore___init__ {f C CT_NoChip : Addr} {fd : FuncData} {dV : Value} (F : FunD K "__init__" "Store.__init__" sStore___init__ dV f fd) (T : Blt mg) (N : Nums mg) (c : ClsOk K C) (GX_NoChip : mg "NoChip" = some (.ref CT_NoChip)) (xk_NoChip : ExcK K CT_NoChip) (Gis_number : Cal P w K mg base 1 "is_number" ["thing", "last"] spIsNum) (Gis_word : Cal P w K mg base 2 "is_word" ["thing"] spIsWord) (GCChip___init__ : Clm P w K mg base 1 "Chip" "__init__" (spInit K)) : FnOk P w K mg base (CX1 P w) 3 f fd ["self", "cells", "word"] (spMkSX C CT_NoChip) := by
  refine F.okX scStore___init__ (fun vs H Q E h => ?_) (fun cdv A outer s H vs Q E hr h => ?_)
  · obtain ⟨a, dx, n, v, rfl, _⟩ := h; rfl
  · obtain ⟨a, dx, n, v, rfl, hn, hv, ha, kg, kb⟩ := h
    refine ⟨_, (pss_cons (ps_if (PT.nox (PW.pt (pw_or (pt_not (pt_val (pe_cal Gis_number (hr.mono (by first | decide | omega)) rfl (pa_cons (pv 1) (pa_cons (pe_globI rfl N.MOST_CELLS) pa_nil))))) (pw_or (pt_cmpR op_lt (pv 1) pe_int (nomark _)) (pw_or1 (pt_not (pt_val (pe_cal Gis_word (hr.mono (by first | decide | omega)) rfl (pa_cons (pv 2) pa_nil))))))))) (pss_one (ps_raiseO (R := fun H1 => E (.ref CT_NoChip) none H1) rfl GX_NoChip xk_NoChip rfl (PE.nox (pe_fsN ⟨_, _, _, rfl⟩ (pj_str pe_str (pj_int (pv 1) (pj_str pe_str (pj_int (pv 2) pj_nil)))))) (fun pins σ H1 s2 h' ea vs I m r => x_leaves I m r))) pss_nil)
      (pss_one (PS.nox (ps_expr (pe_clm GCChip___init__ (hr.mono (by first | decide | omega)) rfl (pa_cons (pv 0) (pa_cons pe_str (pa_cons (pe_op op_rep (pe_lst (pa_cons (pv 2) pa_nil)) (pv 1)) pa_nil)))))))), ?rd⟩
    refine ⟨_, rfl, n, 4096, rfl, _, rfl, ?_⟩
    have bad : ¬ (1 ≤ n ∧ n ≤ 4096 ∧ 0 ≤ v ∧ v ≤ 255) → E (.ref CT_NoChip) none H := fun h => kb h H (Same.refl _)
    have rs : ¬ (1 ≤ n ∧ n ≤ 4096 ∧ 0 ≤ v ∧ v ≤ 255) → ∃ a : Str, V.str "no store: " = .str a ∧ a.length ≤ 1000 ∧ ∃ v1 : V, some (some (V.int n)) = some (some v1) ∧ ∃ i : Int, v1 = .int i ∧ i.natAbs < 2 ^ 1000 ∧ ∃ a2 : Str, V.str " cells of " = .str a2 ∧ a2.length ≤ 1000 ∧ ∃ v2 : V, some (some (V.int v)) = some (some v2) ∧ ∃ j : Int, v2 = .int j ∧ j.natAbs < 2 ^ 1000 ∧ ∀ z : Str, E (.ref CT_NoChip) none H :=
      fun h => ⟨_, rfl, by decide, _, rfl, _, rfl, hn, _, rfl, by decide, _, rfl, _, rfl, hv, fun _ => bad h⟩
    by_cases h1 : 0 ≤ n ∧ n ≤ 4096
    · rw [decide_eq_true h1]
      refine iteF ⟨_, rfl, _, _, rfl, rfl, _, rfl, ?_⟩
      by_cases h2 : n < 1
      · rw [decide_eq_true h2]
        exact iteT (rs (by omega))
      · rw [decide_eq_false h2]
        refine iteF ⟨_, rfl, v, rfl, _, rfl, ?_⟩
        by_cases h3 : 0 ≤ v ∧ v ≤ 255
        · rw [decide_eq_true h3]
          refine iteF ?_
          refine ⟨_, rfl, _, rfl, by show 1 ≤ sizeLine; decide, fun l hl => ?_⟩
          obtain ⟨m, rfl⟩ : ∃ m : Nat, n = (m : Int) := ⟨n.toNat, by omega⟩
          have en : ((m : Int)).toNat = m := by omega
          refine ⟨_, rfl, l, _, _, rfl, rfl, upd_same, by omega, by omega, ?_, fun p hp => ?_⟩
          · rw [en]; show 1 * m ≤ sizeLine; exact Nat.le_trans (by omega) (show 4096 ≤ sizeLine by decide)
          rw [en, show (List.replicate m [V.int v]).flatten = List.replicate m (V.int v) from rep_flat1 m _]
          have nl : l ≠ a := fun z => by rw [z, ha] at hl; cases hl
          have hpl : p ≠ l := fun z => by rw [z, upd_same] at hp; cases hp
          have hp0 : H p = none := by rw [upd_ne hpl] at hp; exact hp
          have ne : p ≠ a := fun z => by rw [z, ha] at hp0; cases hp0
          refine ⟨a, C, dx, p, _, rfl, by rw [upd_ne (Ne.symm ne), upd_ne (Ne.symm nl)]; exact ha, c, fun H' e1 e2 => ?_⟩
          refine kg m rfl (by omega) (by omega) h3.1 h3.2 p H' hp0 ⟨⟨dx, _, e1⟩, by rw [e2 p ne]; exact upd_same, .inl rfl⟩ fun b o hb e => ?_
          rw [e2 b hb, upd_ne (ne_of_none e hp0), upd_ne (ne_of_none e hl)]; exact e
        · rw [decide_eq_false h3]
          exact iteT (rs (by omega))
    · rw [decide_eq_false h1]
      exact iteT (rs (by omega))
end
abbrev sFixed___init__ : Stmt := inClass (top 27) 0
theorem scFixed___init__ : FnScope ["self", "words", "held"] ["self", "words"] (defScope sFixed___init__) := ⟨rfl, rfl, rfl, by decide +kernel, rfl, by decide +kernel, by decide +kernel⟩
section
variable {P : Program} {w : World} {K : PySem.W.Frag} {mg : Str → Option Value} {base : Heap}
theorem okFixed___init__ {f C CT_NoChip : Addr} {fd : FuncData} (F : Fun K "__init__" "Fixed.__init__" sFixed___init__ f fd) (T : Blt mg) (N : Nums mg) (c : ClsOk K C) (GX_NoChip : mg "NoChip" = some (.ref CT_NoChip)) (xk_NoChip : ExcK K CT_NoChip) (Gis_word : Cal P w K mg base 2 "is_word" ["thing"] spIsWord) (GCChip___init__ : Clm P w K mg base 1 "Chip" "__init__" (spInit K)) : FnOk P w K mg base (CX1 P w) 3 f fd ["self", "words"] (spMkFX C CT_NoChip) := by
  refine F.okX scFixed___init__ (fun vs H Q E h => ?_) (fun cdv A outer s H vs Q E hr h => ?_)
  · obtain ⟨a, dx, l, ns, rfl, _⟩ := h; rfl
  · obtain ⟨a, dx, l, ns, rfl, hl, h5, ha, kg, kb⟩ := h
    refine' ⟨_, (pss_cons (PS.nox (ps_set (i := 2) scFixed___init__.nd rfl (Or.inl rfl) (pe_callTy call_list_of (by rfl) T.list bt_list (pa_cons (pv 1) pa_nil))))
      (pss_cons (ps_if (PT.nox (PW.pt (pw_or (pt_not (pt_chain op_le op_le pe_int (pe_callB call_len_seq (by rfl) T.len PySem.boot_len (pa_cons (pv 2) pa_nil)) (pe_globI rfl N.MOST_CELLS))) (pw_or1 (pt_not (pt_val (pe_callB (call_allL rfl) (by rfl) T.all bt_all (pa_cons ?c1 pa_nil)))))))) (pss_one (ps_raiseO (R := fun H1 => E (.ref CT_NoChip) none H1) rfl GX_NoChip xk_NoChip rfl (PE.nox (pe_fsN ⟨_, _, _, rfl⟩ (pj_str pe_str (pj_int (pe_callB call_len_seq (by rfl) T.len PySem.boot_len (pa_cons (pv 2) pa_nil)) (pj_str pe_str pj_nil))))) (fun pins σ H1 s2 h' ea vs I m r => x_leaves I m r))) pss_nil)
      (pss_one (PS.nox (ps_expr (pe_clm GCChip___init__ (hr.mono (by first | decide | omega)) rfl (pa_cons (pv 0) (pa_cons pe_str (pa_cons (pv 2) pa_nil))))))))), ?rd⟩
    (case c1 => exact (pe_comp (Nc := ["word"]) [none] rfl (compOk_of (by rfl)) (pi_list (pv 2)) (fun _ _ _ _ _ => (pg_name (i := 0) (show (["word"] : List Str).Nodup by decide +kernel) rfl (Or.inl rfl))) (fun _ _ _ _ _ => pf_nil) (fun _ _ _ _ _ => (pe_cal Gis_word (hr.mono (by first | decide | omega)) rfl (pa_cons (pv 0) pa_nil)))))
    refine ⟨_, rfl, l, _, rfl, .inl (SqL.of hl), fun p hp => ?_⟩
    have hz : (5000 : Nat) ≤ sizeLine := by decide
    have sp := same_new (o := .lst (ns.map V.int)) hp
    have nl : p ≠ a := fun z => by rw [z, ha] at hp; cases hp
    have rs : ∀ H1 : Hp, Same H H1 → H1 p = some (.lst (ns.map V.int)) → ¬ (1 ≤ ns.length ∧ ns.length ≤ 4096 ∧ wOk ns) → ∃ a : Str, V.str "no fixed chip: " = .str a ∧ a.length ≤ 1000 ∧ ∃ v1 : V, some (some (V.ref p)) = some (some v1) ∧ ∃ (q : Addr) (ys : List V), [v1] = [.ref q] ∧ (SqL K H1 q ys ∨ SqT K H1 q ys) ∧ ∃ i : Int, V.int (ys.length : Int) = .int i ∧ i.natAbs < 2 ^ 1000 ∧ ∃ a2 : Str, V.str " cells" = .str a2 ∧ a2.length ≤ 1000 ∧ ∀ z : Str, E (.ref CT_NoChip) none H1 :=
      fun H1 s1 e1 h => ⟨_, rfl, by decide, _, rfl, p, _, rfl, .inl (SqL.of e1), _, rfl, by rw [List.length_map, Int.natAbs_natCast]; exact Nat.lt_of_le_of_lt h5 (Nat.lt_of_lt_of_le (show 5000 < 2 ^ 13 by decide) (Nat.pow_le_pow_right (by decide) (by decide))), _, rfl, by decide, fun _ => kb h H1 s1⟩
    refine ⟨_, rfl, p, _, rfl, .inl (SqL.of upd_same), _, _, rfl, rfl, _, rfl, ?_⟩
    rw [List.length_map]
    by_cases g1 : (1 : Int) ≤ (ns.length : Int)
    · rw [decide_eq_true g1]
      refine iteT ⟨_, _, rfl, rfl, _, rfl, ?_⟩
      by_cases g2 : (ns.length : Int) ≤ 4096
      · rw [decide_eq_true g2]
        refine iteF ⟨_, rfl, p, rfl, ⟨_, SqL.of upd_same⟩, ?_⟩
        refine comp_list (K := K) (a := p) (xs := ns.map V.int) (fun j rs σ H1 => ∃ v1, σ = [v1] ∧ rs = ((ns.take j).map fun x => decide (0 ≤ x ∧ x ≤ 255)).map V.bl ∧ H1 = upd H p (.lst (ns.map V.int))) (by rw [List.length_map]; omega) ⟨none, rfl, rfl, rfl⟩ ?_ ?_ ?_
        · rintro j rs σ H1 hj ⟨v1, rfl, rfl, rfl⟩
          exact ⟨SqL.of upd_same, by rw [List.length_map, List.length_map, List.length_take]; omega⟩
        · rintro j x rs σ H1 ex ⟨v1, rfl, rfl, rfl⟩
          rw [List.getElem?_map] at ex
          obtain ⟨i, hi, rfl⟩ := Option.map_eq_some_iff.mp ex
          refine ⟨_, rfl, i, rfl, ?_⟩
          refine ⟨_, rfl, ?_, rfl⟩
          rw [List.take_succ, hi]
          show _ = List.map V.bl (List.map _ (ns.take j ++ [i]))
          rw [List.map_append, List.map_append]; rfl
        · rintro rs' σ H1 ⟨v1, rfl, rfl, rfl⟩ D hD
          rw [List.length_map, List.take_of_length_le (Nat.le_refl _)]
          have sD := sp.trans (same_new (o := .lst ((ns.map fun x => decide (0 ≤ x ∧ x ≤ 255)).map V.bl)) hD)
          have ep := same_new (o := .lst ((ns.map fun x => decide (0 ≤ x ∧ x ≤ 255)).map V.bl)) hD _ _ (upd_same (H := H) (a := p) (o := .lst (ns.map V.int)))
          refine ⟨D, ns.map fun x => decide (0 ≤ x ∧ x ≤ 255), rfl, SqL.of upd_same, _, rfl, ?_⟩
          have ea : (ns.map fun x => decide (0 ≤ x ∧ x ≤ 255)).all id = wOkB ns := by rw [List.all_map]; rfl
          rw [ea]
          cases g3 : wOkB ns with
          | true =>
            refine iteF ⟨_, rfl, _, rfl, a, C, dx, p, _, rfl, sD _ _ ha, c, fun H' e1 e2 => ?_⟩
            refine kg (by omega) (by omega) (wOkB_iff.mp g3) p H' hp ⟨⟨dx, _, e1⟩, by rw [e2 p nl]; exact ep, .inl rfl⟩ fun b o hb e => ?_
            rw [e2 b hb]; exact sD _ _ e
          | false =>
            exact iteT (rs _ sD ep fun z => by rw [wOkB_iff.mpr z.2.2] at g3; cases g3)
      · rw [decide_eq_false g2]
        exact iteT (rs _ sp upd_same (by omega))
    · rw [decide_eq_false g1]
      exact iteF ⟨_, rfl, iteT (rs _ sp upd_same (by omega))⟩
end
abbrev sPipe___init__ : Stmt := inClass (top 30) 0
theorem scPipe___init__ : FnScope ["self", "room"] ["self", "room"] (defScope sPipe___init__) := ⟨rfl, rfl, rfl, by decide +kernel, rfl, by decide +kernel, by decide +kernel⟩
section
variable {P : Program} {w : World} {K : PySem.W.Frag} {mg : Str → Option Value} {base : Heap}
theorem okPipe___init__ {f C CT_NoChip : Addr} {fd : FuncData} {dV : Value} (F : FunD K "__init__" "Pipe.__init__" sPipe___init__ dV f fd) (T : Blt mg) (N : Nums mg) (c : ClsOk K C) (GX_NoChip : mg "NoChip" = some (.ref CT_NoChip)) (xk_NoChip : ExcK K CT_NoChip) (Gis_number : Cal P w K mg base 1 "is_number" ["thing", "last"] spIsNum) (Gtwo_figures : Cal P w K mg base 2 "two_figures" ["word"] sp2fig) (GCChip___init__ : Clm P w K mg base 1 "Chip" "__init__" (spInit K)) : FnOk P w K mg base (CX1 P w) 3 f fd ["self", "room"] (spMkPX C CT_NoChip) := by
  refine F.okX scPipe___init__ (fun vs H Q E h => ?_) (fun cdv A outer s H vs Q E hr h => ?_)
  · obtain ⟨a, dx, r, rfl, _⟩ := h; rfl
  · obtain ⟨a, dx, r, rfl, hv, ha, kg, kb⟩ := h
    refine ⟨_, (pss_cons (ps_if (PT.nox (PW.pt (pw_or (pt_not (pt_val (pe_cal Gis_number (hr.mono (by first | decide | omega)) rfl (pa_cons (pv 1) (pa_cons (pe_globI rfl N.MOST_ROOM) pa_nil))))) (pw_or1 (pt_cmpR op_lt (pv 1) pe_int (nomark _)))))) (pss_one (ps_raiseO (R := fun H1 => E (.ref CT_NoChip) none H1) rfl GX_NoChip xk_NoChip rfl (PE.nox (pe_fsN ⟨_, _, _, rfl⟩ (pj_str pe_str (pj_int (pv 1) pj_nil)))) (fun pins σ H1 s2 h' ea vs I m r => x_leaves I m r))) pss_nil)
      (pss_cons (PS.nox (ps_expr (pe_clm GCChip___init__ (hr.mono (by first | decide | omega)) rfl (pa_cons (pv 0) (pa_cons (pe_fsN ⟨_, _, _, rfl⟩ (pj_str pe_str (pj_txt (pe_cal Gtwo_figures (hr.mono (by first | decide | omega)) rfl (pa_cons (pv 1) pa_nil)) pj_nil))) (pa_cons (pe_lst pa_nil) pa_nil))))))
      (pss_one (PS.nox (ps_fld (pv 0) (pv 1) rfl))))), ?rd⟩
    refine ⟨_, rfl, r, 255, rfl, _, rfl, ?_⟩
    have rs : ¬ (1 ≤ r ∧ r ≤ 255) → ∃ a : Str, V.str "no pipe: room for " = .str a ∧ a.length ≤ 1000 ∧ ∃ v1 : V, some (some (V.int r)) = some (some v1) ∧ ∃ i : Int, v1 = .int i ∧ i.natAbs < 2 ^ 1000 ∧ ∀ z : Str, E (.ref CT_NoChip) none H :=
      fun h => ⟨_, rfl, by decide, _, rfl, _, rfl, hv, fun _ => kb h H (Same.refl _)⟩
    by_cases h1 : 0 ≤ r ∧ r ≤ 255
    · rw [decide_eq_true h1]
      refine iteF ⟨_, rfl, _, _, rfl, rfl, _, rfl, ?_⟩
      by_cases h2 : r < 1
      · rw [decide_eq_true h2]
        exact iteT (rs (by omega))
      · rw [decide_eq_false h2]
        obtain ⟨m, rfl⟩ : ∃ m : Nat, r = (m : Int) := ⟨r.toNat, by omega⟩
        refine iteF ⟨_, rfl, _, rfl, by decide, _, rfl, m, rfl, by omega, _, rfl, by show 1 + 1 ≤ 1000; decide, fun z2 => ?_⟩
        refine ⟨by show 0 ≤ sizeLine; decide, fun p hp => ?_⟩
        have ne : p ≠ a := fun z => by rw [z, ha] at hp; cases hp
        refine ⟨a, C, dx, p, _, rfl, by rw [upd_ne (Ne.symm ne)]; exact ha, c, fun H' e1 e2 => ?_⟩
        refine ⟨_, rfl, _, rfl, a, C, dx, _, rfl, e1, c.cl, c.room, by show 2 < 1000; decide, ?_⟩
        refine kg (by omega) (by omega) p _ hp ⟨⟨dx, _, upd_same⟩, by rw [upd_ne ne, e2 p ne]; exact upd_same, .inr ⟨_, rfl⟩⟩ fun b o hb e => ?_
        rw [upd_ne hb, e2 b hb, upd_ne (ne_of_none e hp)]; exact e
    · rw [decide_eq_false h1]
      exact iteT (rs (by omega))
end
abbrev sLatch___init__ : Stmt := inClass (top 28) 0
theorem scLatch___init__ : FnScope ["self", "word"] ["self", "word"] (defScope sLatch___init__) := ⟨rfl, rfl, rfl, by decide +kernel, rfl, by decide +kernel, by decide +kernel⟩
section
variable {P : Program} {w : World} {K : PySem.W.Frag} {mg : Str → Option Value} {base : Heap}
theorem okLatch___init__ {f C CT_NoChip : Addr} {fd : FuncData} {dV : Value} (F : FunD K "__init__" "Latch.__init__" sLatch___init__ dV f fd) (T : Blt mg) (c : ClsOk K C) (GX_NoChip : mg "NoChip" = some (.ref CT_NoChip)) (xk_NoChip : ExcK K CT_NoChip) (Gis_word : Cal P w K mg base 2 "is_word" ["thing"] spIsWord) (GCChip___init__ : Clm P w K mg base 1 "Chip" "__init__" (spInit K)) : FnOk P w K mg base (CX1 P w) 3 f fd ["self", "word"] (spMk1X C CT_NoChip) := by
  refine F.okX scLatch___init__ (fun vs H Q E h => ?_) (fun cdv A outer s H vs Q E hr h => ?_)
  · obtain ⟨a, dx, v, rfl, _⟩ := h; rfl
  · obtain ⟨a, dx, v, rfl, hv, ha, kg, kb⟩ := h
    refine ⟨_, (pss_cons (ps_if (PT.nox (pt_not (pt_val (pe_cal Gis_word (hr.mono (by first | decide | omega)) rfl (pa_cons (pv 1) pa_nil))))) (pss_one (ps_raiseO (R := fun H1 => E (.ref CT_NoChip) none H1) rfl GX_NoChip xk_NoChip rfl (PE.nox (pe_fsN ⟨_, _, _, rfl⟩ (pj_str pe_str (pj_int (pv 1) pj_nil)))) (fun pins σ H1 s2 h' ea vs I m r => x_leaves I m r))) pss_nil)
      (pss_one (PS.nox (ps_expr (pe_clm GCChip___init__ (hr.mono (by first | decide | omega)) rfl (pa_cons (pv 0) (pa_cons pe_str (pa_cons (pe_lst (pa_cons (pv 1) pa_nil)) pa_nil)))))))), ?rd⟩
    refine ⟨_, rfl, v, rfl, _, rfl, ?_⟩
    by_cases h3 : 0 ≤ v ∧ v ≤ 255
    · rw [decide_eq_true h3]
      refine iteF ?_
      refine ⟨_, rfl, _, rfl, by show 1 ≤ sizeLine; decide, fun p hp => ?_⟩
      have ne : p ≠ a := fun z => by rw [z, ha] at hp; cases hp
      refine ⟨a, C, dx, p, _, rfl, by rw [upd_ne (Ne.symm ne)]; exact ha, c, fun H' e1 e2 => ?_⟩
      refine kg h3.1 h3.2 p H' hp ⟨⟨dx, _, e1⟩, by rw [e2 p ne]; exact upd_same, .inl rfl⟩ fun b o hb e => ?_
      rw [e2 b hb, upd_ne (ne_of_none e hp)]; exact e
    · rw [decide_eq_false h3]
      exact iteT ⟨_, rfl, by decide, _, rfl, _, rfl, hv, fun _ => kb h3 H (Same.refl _)⟩
end
abbrev sMeter___init__ : Stmt := inClass (top 29) 0
theorem scMeter___init__ : FnScope ["self", "word"] ["self", "word"] (defScope sMeter___init__) := ⟨rfl, rfl, rfl, by decide +kernel, rfl, by decide +kernel, by decide +kernel⟩
section
variable {P : Program} {w : World} {K : PySem.W.Frag} {mg : Str → Option Value} {base : Heap}
theorem okMeter___init__ {f C CT_NoChip : Addr} {fd : FuncData} {dV : Value} (F : FunD K "__init__" "Meter.__init__" sMeter___init__ dV f fd) (T : Blt mg) (c : ClsOk K C) (GX_NoChip : mg "NoChip" = some (.ref CT_NoChip)) (xk_NoChip : ExcK K CT_NoChip) (Gis_word : Cal P w K mg base 2 "is_word" ["thing"] spIsWord) (GCChip___init__ : Clm P w K mg base 1 "Chip" "__init__" (spInit K)) : FnOk P w K mg base (CX1 P w) 3 f fd ["self", "word"] (spMk1X C CT_NoChip) := by
  refine F.okX scMeter___init__ (fun vs H Q E h => ?_) (fun cdv A outer s H vs Q E hr h => ?_)
  · obtain ⟨a, dx, v, rfl, _⟩ := h; rfl
  · obtain ⟨a, dx, v, rfl, hv, ha, kg, kb⟩ := h
    refine ⟨_, (pss_cons (ps_if (PT.nox (pt_not (pt_val (pe_cal Gis_word (hr.mono (by first | decide | omega)) rfl (pa_cons (pv 1) pa_nil))))) (pss_one (ps_raiseO (R := fun H1 => E (.ref CT_NoChip) none H1) rfl GX_NoChip xk_NoChip rfl (PE.nox (pe_fsN ⟨_, _, _, rfl⟩ (pj_str pe_str (pj_int (pv 1) pj_nil)))) (fun pins σ H1 s2 h' ea vs I m r => x_leaves I m r))) pss_nil)
      (pss_one (PS.nox (ps_expr (pe_clm GCChip___init__ (hr.mono (by first | decide | omega)) rfl (pa_cons (pv 0) (pa_cons pe_str (pa_cons (pe_lst (pa_cons (pv 1) pa_nil)) pa_nil)))))))), ?rd⟩
    refine ⟨_, rfl, v, rfl, _, rfl, ?_⟩
    by_cases h3 : 0 ≤ v ∧ v ≤ 255
    · rw [decide_eq_true h3]
      refine iteF ?_
      refine ⟨_, rfl, _, rfl, by show 1 ≤ sizeLine; decide, fun p hp => ?_⟩
      have ne : p ≠ a := fun z => by rw [z, ha] at hp; cases hp
      refine ⟨a, C, dx, p, _, rfl, by rw [upd_ne (Ne.symm ne)]; exact ha, c, fun H' e1 e2 => ?_⟩
      refine kg h3.1 h3.2 p H' hp ⟨⟨dx, _, e1⟩, by rw [e2 p ne]; exact upd_same, .inl rfl⟩ fun b o hb e => ?_
      rw [e2 b hb, upd_ne (ne_of_none e hp)]; exact e
    · rw [decide_eq_false h3]
      exact iteT ⟨_, rfl, by decide, _, rfl, _, rfl, hv, fun _ => kb h3 H (Same.refl _)⟩
end
abbrev s_law_bag : Stmt := top 33
theorem sc_law_bag : FnScope ["seed", "place", "start"] ["seed", "place"] (defScope s_law_bag) := ⟨rfl, rfl, rfl, by decide +kernel, rfl, by decide +kernel, by decide +kernel⟩
section
variable {P : Program} {w : World} {K : PySem.W.Frag} {mg : Str → Option Value} {base : Heap}
theorem ok_law_bag {f : Addr} {fd : FuncData} (F : Fun K "_law_bag" "_law_bag" s_law_bag f fd) (T : Blt mg) : FnOk P w K mg base CX0 1 f fd ["seed", "place"] spBag := by
  refine F.ok sc_law_bag (fun vs H Q E h => ?_) (fun cdv A outer s H vs Q E hr h => ?_)
  · obtain ⟨z, n, rfl, _⟩ := h; rfl
  · obtain ⟨z, n, rfl, hb, hn, k⟩ := h
    refine ⟨_, (pss_cons (ps_set (i := 2) sc_law_bag.nd rfl (Or.inl rfl) (pe_op op_mod (pe_op op_add (pe_op op_mulB (pe_op op_mod (pv 0) pe_int) pe_int) (pe_op op_mulB pe_int (pe_op op_pow (pe_op op_add (pv 1) pe_int) pe_int))) pe_int))
      (pss_one (ps_ret (pe_lst (pa_cons (pe_callB (call_max2 rfl) (by rfl) T.max PyProof.Rows.boot_max (pa_cons pe_int (pa_cons (pe_op op_sub (pv 0) (pe_op op_pow pe_int pe_int)) pa_nil))) (pa_cons (pv 2) (pa_cons (pv 1) pa_nil))))))), ?rd⟩
    walk_at "vc"
    have z0 := Int.emod_nonneg z (show (2147483647 : Int) ≠ 0 by decide)
    have z1 := Int.emod_lt_of_pos z (show (0 : Int) < 2147483647 by decide)
    refine And.intro (mul_ok (by omega) (by decide)) ?_
    walk_at "vc"
    have c3 : ((n : Int) + 1) ^ 3 = ((n + 1) ^ 3 : Nat) := by norm_cast
    have c4 : (n + 1) ^ 3 ≤ 64 ^ 3 := Nat.pow_le_pow_left (by omega) 3
    refine And.intro ⟨by decide, by decide, by omega⟩ ?_
    refine ⟨_, _, rfl, rfl, mul_ok (by decide) (show Int.natAbs (((n : Int) + 1) ^ 3) < 2 ^ 200 by rw [c3]; omega), ?_⟩
    walk_at "vc"
    refine ⟨by show 3 ≤ sizeLine; decide, fun l hl => ?_⟩
    refine k l _ hl ⟨_, _, _, upd_same, ?_, Int.emod_nonneg _ (by decide), Int.emod_lt_of_pos _ (by decide), by omega, Int.le_refl _⟩ (same_new hl)
    split <;> omega
end
abbrev s_law_draw : Stmt := top 34
theorem sc_law_draw : FnScope ["bag", "many", "found"] ["bag", "many"] (defScope s_law_draw) := ⟨rfl, rfl, rfl, by decide +kernel, rfl, by decide +kernel, by decide +kernel⟩
section
variable {P : Program} {w : World} {K : PySem.W.Frag} {mg : Str → Option Value} {base : Heap}
theorem ok_law_draw {f : Addr} {fd : FuncData} (F : Fun K "_law_draw" "_law_draw" s_law_draw f fd) (T : Blt mg) : FnOk P w K mg base CX0 1 f fd ["bag", "many"] spDraw := by
  refine F.ok sc_law_draw (fun vs H Q E h => ?_) (fun cdv A outer s H vs Q E hr h => ?_)
  · obtain ⟨p, m, n, rfl, _⟩ := h; rfl
  · obtain ⟨p, m, n, rfl, ⟨a, b, c, hp, ha, hb, hb2, hc, hc2⟩, hn, hm, hm2, k⟩ := h
    refine ⟨_, (pss_cons (ps_if (pt_cmpR op_gt (pe_ix ix_list (pv 0) pe_int (fun _ _ => rfl)) pe_int (nomark _)) (pss_cons (ps_set (i := 2) sc_law_draw.nd rfl (Or.inl rfl) (pe_op op_mod (pe_ix ix_list (pv 0) pe_int (fun _ _ => rfl)) (pv 1)))
      (pss_cons (ps_asg (pe_op op_fdivB (pe_ix ix_list (pv 0) pe_int (fun _ _ => rfl)) (pv 1)) (pg_sub (pv 0) pe_int set_list))
      (pss_one (ps_ret (pv 2))))) pss_nil)
      (pss_cons (ps_asg (pe_op op_add (pe_ix ix_list (pv 0) pe_int (fun _ _ => rfl)) pe_int) (pg_sub (pv 0) pe_int set_list))
      (pss_cons (ps_asg (pe_op op_mod (pe_op op_pow (pe_op op_add (pe_ix ix_list (pv 0) pe_int (fun _ _ => rfl)) (pe_op op_mulB pe_int (pe_ix ix_list (pv 0) pe_int (fun _ _ => rfl)))) pe_int) pe_int) (pg_sub (pv 0) pe_int set_list))
      (pss_one (ps_ret (pe_op op_mod (pe_op op_fdivB (pe_ix ix_list (pv 0) pe_int (fun _ _ => rfl)) pe_int) (pv 1))))))), ?rd⟩
    have lm := log_ok hm (by omega)
    walk_at "vc"
    refine ite2 (fun h1 => ?_) (fun h1 => ?_)
    · walk_at "vc"
      have h0 := Int.emod_nonneg a (Int.ne_of_gt hm)
      have e : ((a % m).toNat : Int) = a % m := Int.toNat_of_nonneg h0
      have := k (a % m).toNat (upd H p (.lst [.int (a / m), .int b, .int c])) (by rw [e]; exact Int.emod_lt_of_pos _ hm) ⟨_, b, c, upd_same, Int.ediv_nonneg ha (Int.le_of_lt hm), hb, hb2, hc, by omega⟩ (fun b hb => upd_ne hb)
      rw [e] at this
      exact this
    · walk_at "vc"
      refine And.intro (mul_ok (by decide) (by omega)) ?_
      walk_at "vc"
      refine And.intro ⟨by decide, by decide, by omega⟩ ?_
      walk_at "vc"
      obtain ⟨v, hv⟩ : ∃ v, (b + 15485863 * (c + 1)) ^ Int.toNat 5 % 2147483647 = v := ⟨_, rfl⟩
      have v0 : 0 ≤ v := by rw [← hv]; exact Int.emod_nonneg _ (by decide)
      have v1 : v < 2147483647 := by rw [← hv]; exact Int.emod_lt_of_pos _ (by decide)
      have h0 := Int.emod_nonneg (v / 128) (Int.ne_of_gt hm)
      have e : ((v / 128 % m).toNat : Int) = v / 128 % m := Int.toNat_of_nonneg h0
      have := k (v / 128 % m).toNat (upd (upd H p (.lst [.int a, .int b, .int (c + 1)])) p (.lst [.int a, .int v, .int (c + 1)])) (by rw [e]; exact Int.emod_lt_of_pos _ hm) ⟨a, v, _, upd_same, ha, v0, v1, by omega, by omega⟩ (fun b hb => by rw [upd_ne hb, upd_ne hb])
      rw [e] at this
      subst hv
      exact this
end
abbrev s_law_alike : Stmt := top 35
theorem sc_law_alike : FnScope ["found", "due"] ["found", "due"] (defScope s_law_alike) := ⟨rfl, rfl, rfl, by decide +kernel, rfl, by decide +kernel, by decide +kernel⟩
section
variable {P : Program} {w : World} {K : PySem.W.Frag} {mg : Str → Option Value} {base : Heap}
theorem ok_law_alike {f : Addr} {fd : FuncData} {m n : Nat} {sp : Sp} (F : Fun K "_law_alike" "_law_alike" s_law_alike f fd) (T : Blt mg) (G_law_alike : Cal P w K mg base n "_law_alike" ["found", "due"] sp) (hsp : ∀ k, m = k + 1 → sp = spAlike k) : FnOk P w K mg base CX0 (n + 1) f fd ["found", "due"] (spAlike m) := by
  refine F.ok sc_law_alike (fun vs H Q E h => ?_) (fun cdv A outer s H vs Q E hr h => ?_)
  · obtain ⟨v, w, rfl, _⟩ := h; rfl
  · obtain ⟨v, w, rfl, hL, k⟩ := h
    refine' ⟨_, (pss_cons (ps_if (pt_cmp (pc_isN (pv 1))) (pss_one (ps_ret (pe_cmp (pc_isN (pv 0))))) pss_nil)
      (pss_cons (ps_if (pt_val (pe_callB (call_isT "bool" (K := K) rfl) (by rfl) T.isinstance bt_isi (pa_cons (pv 1) (pa_cons (pe_bltn rfl T.bool bt_bool rl_bool) pa_nil)))) (pss_one (ps_ret (pe_and (pe_callB (call_isT "bool" (K := K) rfl) (by rfl) T.isinstance bt_isi (pa_cons (pv 0) (pa_cons (pe_bltn rfl T.bool bt_bool rl_bool) pa_nil))) (pe_one (pe_cmpR op_eq (pv 0) (pv 1) (nomark _)))))) pss_nil)
      (pss_cons (ps_if (pt_val (pe_callB (call_isT "int" (K := K) rfl) (by rfl) T.isinstance bt_isi (pa_cons (pv 1) (pa_cons (pe_bltn rfl T.int bt_int rl_int) pa_nil)))) (pss_one (ps_ret (pe_and (pe_callB (call_isT "int" (K := K) rfl) (by rfl) T.isinstance bt_isi (pa_cons (pv 0) (pa_cons (pe_bltn rfl T.int bt_int rl_int) pa_nil))) (pe_and (pe_not (pe_callB (call_isT "bool" (K := K) rfl) (by rfl) T.isinstance bt_isi (pa_cons (pv 0) (pa_cons (pe_bltn rfl T.bool bt_bool rl_bool) pa_nil)))) (pe_one (pe_cmpR op_eq (pv 0) (pv 1) (nomark _))))))) pss_nil)
      (pss_cons (ps_if (pt_val (pe_callB (call_isT "str" (K := K) rfl) (by rfl) T.isinstance bt_isi (pa_cons (pv 1) (pa_cons (pe_bltn rfl T.str bt_str rl_str) pa_nil)))) (pss_one (ps_ret (pe_and (pe_callB (call_isT "str" (K := K) rfl) (by rfl) T.isinstance bt_isi (pa_cons (pv 0) (pa_cons (pe_bltn rfl T.str bt_str rl_str) pa_nil))) (pe_one (pe_cmpR op_eq (pv 0) (pv 1) (nomark _)))))) pss_nil)
      (pss_cons (ps_if (PW.pt (pw_or (pt_cmpR op_ne (pe_callB (call_isT "tuple" (K := K) rfl) (by rfl) T.isinstance bt_isi (pa_cons (pv 1) (pa_cons (pe_bltn rfl T.tuple bt_tuple rl_tuple) pa_nil))) (pe_callB (call_isT "tuple" (K := K) rfl) (by rfl) T.isinstance bt_isi (pa_cons (pv 0) (pa_cons (pe_bltn rfl T.tuple bt_tuple rl_tuple) pa_nil))) (nomark _)) (pw_or1 (pt_cmpR op_ne (pe_callB (call_isT "list" (K := K) rfl) (by rfl) T.isinstance bt_isi (pa_cons (pv 1) (pa_cons (pe_bltn rfl T.list bt_list rl_list) pa_nil))) (pe_callB (call_isT "list" (K := K) rfl) (by rfl) T.isinstance bt_isi (pa_cons (pv 0) (pa_cons (pe_bltn rfl T.list bt_list rl_list) pa_nil))) (nomark _))))) (pss_one (ps_ret pe_bl)) pss_nil)
      (pss_one (ps_ret (pe_and (pe_cmpR op_eq (pe_callB call_len_seq (by rfl) T.len PySem.boot_len (pa_cons (pv 0) pa_nil)) (pe_callB call_len_seq (by rfl) T.len PySem.boot_len (pa_cons (pv 1) pa_nil)) (nomark _)) (pe_one (pe_callB (call_allL rfl) (by rfl) T.all bt_all (pa_cons ?c1 pa_nil))))))))))), ?rd⟩
    (case c1 => exact (pe_comp (Nc := ["one", "other"]) [none, none] rfl (compOk_of (by rfl)) (pi_zipX rfl T.zip (pa_cons (pv 0) (pa_cons (pv 1) pa_nil))) (fun _ _ _ _ _ => (pg_tupE 2 (K := K) rfl rfl (pgs_cons (pg_name (i := 0) (show (["one", "other"] : List Str).Nodup by decide +kernel) rfl (Or.inl rfl)) (pgs_cons (pg_name (i := 1) (show (["one", "other"] : List Str).Nodup by decide +kernel) rfl (Or.inl rfl)) pgs_nil)))) (fun _ _ _ _ _ => pf_nil) (fun _ _ _ _ _ => (pe_cal G_law_alike (hr.mono (by first | decide | omega)) rfl (pa_cons (pv 0) (pa_cons (pv 1) pa_nil))))))
    cases hL with
    | int i =>
      refine ⟨_, rfl, _, rfl, iteF ?_⟩
      refine ⟨_, rfl, _, _, _, rfl, .int i, rfl, false, rfl, iteF ?_⟩
      refine ⟨_, rfl, _, _, _, rfl, .int i, rfl, true, rfl, iteT ⟨_, rfl, _, _, _, rfl, .int i, rfl, true, rfl, iteT ⟨_, rfl, _, _, _, rfl, .int i, rfl, false, rfl, true, rfl, iteT ⟨_, rfl, _, rfl, rfl, ?_⟩⟩⟩⟩
      rw [decide_eq_true rfl]
      exact k H fun _ _ z => z
    | @seq m' t a b xs ys ha hb hl hz h =>
      have ty : ∀ {q : Addr} {us : List V}, SqX t H q us → TyOf K H (.ref q) (.type (sqC t)) := fun {q us} e => ty_seq e
      have kb : PySem.W.kitOne K (.type (sqC t)) (.type "bool") = some false := by cases t <;> rfl
      have ki : PySem.W.kitOne K (.type (sqC t)) (.type "int") = some false := by cases t <;> rfl
      have ks : PySem.W.kitOne K (.type (sqC t)) (.type "str") = some false := by cases t <;> rfl
      have kt : PySem.W.kitOne K (.type (sqC t)) (.type "tuple") = some t := by cases t <;> rfl
      have kl : PySem.W.kitOne K (.type (sqC t)) (.type "list") = some (!t) := by cases t <;> rfl
      refine ⟨_, rfl, _, rfl, iteF ?_⟩
      refine ⟨_, rfl, _, _, _, rfl, ty hb, kb, false, rfl, iteF ?_⟩
      refine ⟨_, rfl, _, _, _, rfl, ty hb, ki, false, rfl, iteF ?_⟩
      refine ⟨_, rfl, _, _, _, rfl, ty hb, ks, false, rfl, iteF ?_⟩
      refine ⟨_, rfl, _, _, _, rfl, ty hb, kt, _, rfl, _, _, _, rfl, ty ha, kt, rfl, _, rfl, iteNS rfl ?_⟩
      refine ⟨_, rfl, _, _, _, rfl, ty hb, kl, _, rfl, _, _, _, rfl, ty ha, kl, rfl, _, rfl, iteNS rfl ?_⟩
      have sq : ∀ {q : Addr} {us : List V}, SqX t H q us → SqL K H q us ∨ SqT K H q us := fun {q us} e => by
        cases t with
        | true => exact .inr (SqT.of e)
        | false => exact .inl (SqL.of e)
      refine ⟨_, rfl, a, xs, rfl, sq ha, _, rfl, b, ys, rfl, sq hb, rfl, _, rfl, ?_⟩
      rw [decide_eq_true (show V.int (xs.length : Int) = V.int (ys.length : Int) by rw [hl])]
      refine iteT ?_
      obtain rfl := hsp m' rfl
      refine ⟨_, rfl, _, rfl, t, a, b, xs, ys, rfl, ha, hb, ?_⟩
      refine comp_zipX (t := t) (xs := xs) (ys := ys) (fun j rs σ H1 => ∃ v1 v2, σ = [v1, v2] ∧ rs = List.replicate j (V.bl true) ∧ Same H H1) hl hz ⟨none, none, rfl, rfl, fun _ _ z => z⟩ ?_ ?_ ?_
      · rintro j rs σ H1 hj ⟨v1, v2, rfl, rfl, s1⟩
        exact ⟨s1 _ _ ha, s1 _ _ hb, by rw [List.length_replicate]; exact Nat.le_refl _⟩
      · rintro j x y U rs σ H1 ex ey hU ⟨v1, v2, rfl, rfl, s1⟩
        refine g_pair ?_
        have s2 := s1.trans (same_new (o := .tup [x, y]) hU)
        refine ⟨_, rfl, _, rfl, x, y, rfl, (h j x y ex ey).same s2, fun H3 s3 => ?_⟩
        exact ⟨_, _, rfl, List.replicate_succ'.symm, s2.trans s3⟩
      · rintro rs σ H1 ⟨v1, v2, rfl, rfl, s1⟩ D hD
        refine ⟨D, List.replicate xs.length true, rfl, SqL.of (by rw [List.map_replicate]; exact upd_same), ?_⟩
        rw [show (List.replicate xs.length true).all id = true by simp]
        exact k _ (s1.trans (same_new hD))
end
abbrev s_law_big : Stmt := top 36
theorem sc_law_big : FnScope ["bag", "found", "turn"] ["bag"] (defScope s_law_big) := ⟨rfl, rfl, rfl, by decide +kernel, rfl, by decide +kernel, by decide +kernel⟩
section
variable {P : Program} {w : World} {K : PySem.W.Frag} {mg : Str → Option Value} {base : Heap}
theorem ok_law_big {f : Addr} {fd : FuncData} (F : Fun K "_law_big" "_law_big" s_law_big f fd) (T : Blt mg) (G_law_draw : Cal P w K mg base 1 "_law_draw" ["bag", "many"] spDraw) : FnOk P w K mg base CX0 2 f fd ["bag"] spBig := by
  refine F.ok sc_law_big (fun vs H Q E h => ?_) (fun cdv A outer s H vs Q E hr h => ?_)
  · obtain ⟨p, n, rfl, _⟩ := h; rfl
  · obtain ⟨p, n, rfl, hB, hn, k⟩ := h
    refine ⟨_, (pss_cons (ps_set (i := 1) sc_law_big.nd rfl (Or.inl rfl) pe_int)
      (pss_cons (ps_for PassesOwn.never rfl (pi_range1 rfl T.range (pa_cons pe_int pa_nil)) (pg_name (i := 2) sc_law_big.nd rfl (Or.inl rfl))
      (pss_one (ps_set (i := 1) sc_law_big.nd rfl (Or.inl rfl) (pe_op op_add (pe_op op_mulB (pv 1) pe_int) (pe_cal G_law_draw (hr.mono (by first | decide | omega)) rfl (pa_cons (pv 0) (pa_cons pe_int pa_nil)))))))
      (pss_cons (ps_set (i := 1) sc_law_big.nd rfl (Or.inl rfl) (pe_op op_mod (pv 1) pe_int))
      (pss_cons (ps_if (pt_cmpR op_eq (pe_cal G_law_draw (hr.mono (by first | decide | omega)) rfl (pa_cons (pv 0) (pa_cons pe_int pa_nil))) pe_int (nomark _)) (pss_one (ps_ret (pe_op op_sub pe_int (pv 1)))) pss_nil)
      (pss_one (ps_ret (pv 1))))))), ?rd⟩
    refine ⟨3, rfl, by decide, by decide, ?_⟩
    refine for_range (n := 3) (fun i σ X => ∃ (v2 : Option V) (x : Nat), σ = [some (.ref p), some (.int (x : Int)), v2] ∧ x < 2 ^ (24 * i + 1) ∧ BagAt X p (n + i) ∧ KeepP p H X) ⟨_, 0, rfl, by decide, hB, KeepP.refl _ _⟩ ?_ ?_
    · rintro i σ X hi ⟨v2, x, rfl, hx, hBX, kX⟩
      have h73 : 2 ^ (24 * i + 1) ≤ 2 ^ 49 := Nat.pow_le_pow_right (by decide) (by omega)
      refine ⟨_, rfl, _, _, rfl, rfl, mul_ok (by omega) (by decide), _, rfl, p, _, _, rfl, hBX, by omega, by decide, by decide, fun r X1 hr1 hB1 k1 => ⟨_, _, rfl, rfl, ?_⟩⟩
      refine ⟨some (.int (0 + (i : Int))), x * 16777213 + r, ?_, ?_, hB1.mono (by omega), kX.trans fun b o hb e => by rw [k1 b hb]; exact e⟩
      · show [_, some (V.int ((x : Int) * 16777213 + (r : Int))), _] = _
        rw [show (x : Int) * 16777213 + (r : Int) = ((x * 16777213 + r : Nat) : Int) by rw [Int.natCast_add, Int.natCast_mul]; rfl]
      · have e : 2 ^ (24 * (i + 1) + 1) = 2 ^ (24 * i + 1) * 2 ^ 24 := by rw [← Nat.pow_add]; exact congrArg (2 ^ ·) (by omega)
        have hr2 : r < 16777213 := by omega
        have : (2 : Nat) ^ 24 = 16777216 := by decide
        rw [e, this]
        have : (x + 1) * 16777216 ≤ 2 ^ (24 * i + 1) * 16777216 := Nat.mul_le_mul_right _ hx
        omega
    · rintro σ X ⟨v2, x, rfl, hx, hBX, kX⟩
      refine ⟨_, rfl, _, _, rfl, rfl, (show (0 : Int) < 18446744073709551616 by decide), ?_⟩
      have hm : (x : Int) % 18446744073709551616 = ((x % 18446744073709551616 : Nat) : Int) := (Int.natCast_emod x 18446744073709551616).symm
      have hlt : x % 18446744073709551616 < 2 ^ 64 := Nat.mod_lt _ (by decide)
      rw [show ((fun (i j : Int) => V.int (i % j)) (x : Int) 18446744073709551616) = V.int ((x % 18446744073709551616 : Nat) : Int) from congrArg V.int hm]
      generalize x % 18446744073709551616 = y at hlt
      dsimp only [gName]
      refine ⟨_, rfl, p, _, _, rfl, hBX, by omega, by decide, by decide, fun r X1 hr1 hB1 k1 => ⟨rfl, _, rfl, ?_⟩⟩
      have kX1 : KeepP p H X1 := kX.trans fun b o hb e => by rw [k1 b hb]; exact e
      refine ite2 (fun _ => ⟨_, rfl, _, _, rfl, rfl, ?_⟩) (fun _ => ⟨_, rfl, ?_⟩)
      · exact k _ X1 (by show (0 - (y : Int)).natAbs < 2 ^ 64; omega) (hB1.mono (by omega)) kX1
      · exact k _ X1 (by rw [Int.natAbs_natCast]; exact hlt) (hB1.mono (by omega)) kX1
end
abbrev s_law_near : Stmt := top 39
theorem sc_law_near : FnScope ["bag", "most", "way"] ["bag", "most"] (defScope s_law_near) := ⟨rfl, rfl, rfl, by decide +kernel, rfl, by decide +kernel, by decide +kernel⟩
section
variable {P : Program} {w : World} {K : PySem.W.Frag} {mg : Str → Option Value} {base : Heap}
theorem ok_law_near {f : Addr} {fd : FuncData} (F : Fun K "_law_near" "_law_near" s_law_near f fd) (T : Blt mg) (G_law_draw : Cal P w K mg base 1 "_law_draw" ["bag", "many"] spDraw) (G_law_big : Cal P w K mg base 2 "_law_big" ["bag"] spBig) : FnOk P w K mg base CX0 3 f fd ["bag", "most"] spNearC := by
  refine F.ok sc_law_near (fun vs H Q E h => ?_) (fun cdv A outer s H vs Q E hr h => ?_)
  · obtain ⟨p, m, n, rfl, _⟩ := h; rfl
  · obtain ⟨p, m, n, rfl, hm1, hm2, hB, hn, k⟩ := h
    refine ⟨_, (pss_cons (ps_set (i := 2) sc_law_near.nd rfl (Or.inl rfl) (pe_cal G_law_draw (hr.mono (by first | decide | omega)) rfl (pa_cons (pv 0) (pa_cons pe_int pa_nil))))
      (pss_cons (ps_if (pt_cmpR op_lt (pv 2) pe_int (nomark _)) (pss_one (ps_ret (pe_ix ix_list (pe_lst (pa_cons pe_int (pa_cons pe_int (pa_cons (pv 1) (pa_cons (pe_op op_add (pv 1) pe_int) pa_nil))))) (pv 2) (fun _ _ => rfl)))) pss_nil)
      (pss_cons (ps_if (pt_cmpR op_eq (pv 2) pe_int (nomark _)) (pss_one (ps_ret (pe_op op_sub (pe_un un_neg pe_int) (pe_cal G_law_draw (hr.mono (by first | decide | omega)) rfl (pa_cons (pv 0) (pa_cons pe_int pa_nil)))))) pss_nil)
      (pss_cons (ps_if (pt_cmpR op_eq (pv 2) pe_int (nomark _)) (pss_one (ps_ret (pe_cal G_law_big (hr.mono (by first | decide | omega)) rfl (pa_cons (pv 0) pa_nil)))) pss_nil)
      (pss_one (ps_ret (pe_op op_add pe_int (pe_cal G_law_draw (hr.mono (by first | decide | omega)) rfl (pa_cons (pv 0) (pa_cons (pv 1) pa_nil)))))))))), ?rd⟩
    refine ⟨_, rfl, p, _, _, rfl, hB, by omega, by decide, by decide, fun r X1 hr1 hB1 k1 => ?_⟩
    have kX1 : KeepP p H X1 := fun b o hb e => by rw [k1 b hb]; exact e
    dsimp only [gName]
    refine ⟨_, rfl, _, _, rfl, rfl, _, rfl, ite2 (fun h1 => ?_) (fun h1 => ?_)⟩
    · have h1 : r < 4 := by have := of_decide_eq_true h1; omega
      refine ⟨_, rfl, _, rfl, _, _, rfl, rfl, by show 4 ≤ sizeLine; decide, fun q hq => ⟨_, rfl, ?_⟩⟩
      obtain ⟨x, hx, ex⟩ : ∃ x : Int, x.natAbs < 2 ^ 64 ∧ atI [V.int 0, V.int 1, V.int (m : Int), V.int ((m : Int) + 1)] (r : Int) = some (.int x) := by
        rcases (show r = 0 ∨ r = 1 ∨ r = 2 ∨ r = 3 by omega) with rfl | rfl | rfl | rfl
        · exact ⟨0, by decide, rfl⟩
        · exact ⟨1, by decide, rfl⟩
        · exact ⟨m, by omega, rfl⟩
        · exact ⟨(m : Int) + 1, by omega, rfl⟩
      exact ⟨q, _, _, _, rfl, rfl, SqL.of upd_same, ex, k x _ hx ((hB1.same (same_new hq)).mono (by omega)) (kX1.trans (.of (same_new hq)))⟩
    refine ⟨_, rfl, rfl, _, rfl, ite2 (fun h2 => ?_) (fun h2 => ?_)⟩
    · refine ⟨_, rfl, _, rfl, p, _, _, rfl, hB1, by omega, by decide, by decide, fun r2 X2 hr2 hB2 k2 => ⟨_, _, rfl, rfl, ?_⟩⟩
      exact k _ X2 (by show (-1 - (r2 : Int)).natAbs < 2 ^ 64; omega) (hB2.mono (by omega)) (kX1.trans fun b o hb e => by rw [k2 b hb]; exact e)
    refine ⟨_, rfl, rfl, _, rfl, ite2 (fun h3 => ?_) (fun h3 => ?_)⟩
    · exact ⟨_, rfl, p, _, rfl, hB1, by omega, fun x X2 hx hB2 k2 => k x X2 hx (hB2.mono (by omega)) (kX1.trans k2)⟩
    · refine ⟨_, rfl, _, rfl, p, _, _, rfl, hB1, by omega, by omega, by omega, fun r2 X2 hr2 hB2 k2 => ⟨_, _, rfl, rfl, ?_⟩⟩
      exact k _ X2 (by show (1 + (r2 : Int)).natAbs < 2 ^ 64; omega) (hB2.mono (by omega)) (kX1.trans fun b o hb e => by rw [k2 b hb]; exact e)
end
abbrev s_law_words : Stmt := top 40
theorem sc_law_words : FnScope ["bag", "way", "many", "row"] ["bag"] (defScope s_law_words) := ⟨rfl, rfl, rfl, by decide +kernel, rfl, by decide +kernel, by decide +kernel⟩
section
variable {P : Program} {w : World} {K : PySem.W.Frag} {mg : Str → Option Value} {base : Heap}
theorem map_rep (n : Nat) (x : Int) : List.replicate n (V.int x) = (List.replicate n x).map V.int := by rw [List.map_replicate]
theorem ok_law_words {f : Addr} {fd : FuncData} (F : Fun K "_law_words" "_law_words" s_law_words f fd) (T : Blt mg) (G_law_draw : Cal P w K mg base 1 "_law_draw" ["bag", "many"] spDraw) (G_law_near : Cal P w K mg base 3 "_law_near" ["bag", "most"] spNearC) : FnOk P w K mg base CX0 4 f fd ["bag"] spWordsC := by
  refine F.ok sc_law_words (fun vs H Q E h => ?_) (fun cdv A outer s H vs Q E hr h => ?_)
  · obtain ⟨p, n, rfl, _⟩ := h; rfl
  · obtain ⟨p, n, rfl, hB, hn, k⟩ := h
    refine ⟨_, (pss_cons (ps_set (i := 1) sc_law_words.nd rfl (Or.inl rfl) (pe_cal G_law_draw (hr.mono (by first | decide | omega)) rfl (pa_cons (pv 0) (pa_cons pe_int pa_nil))))
      (pss_cons (ps_set (i := 2) sc_law_words.nd rfl (Or.inl rfl) (pe_op op_add pe_int (pe_cal G_law_draw (hr.mono (by first | decide | omega)) rfl (pa_cons (pv 0) (pa_cons pe_int pa_nil)))))
      (pss_cons (ps_if (pt_cmpR op_lt (pv 1) pe_int (nomark _)) (pss_one (ps_set (i := 2) sc_law_words.nd rfl (Or.inl rfl) (pe_ix ix_list (pe_lst (pa_cons pe_int (pa_cons pe_int (pa_cons pe_int pa_nil)))) (pv 1) (fun _ _ => rfl)))) pss_nil)
      (pss_cons (ps_set (i := 3) sc_law_words.nd rfl (Or.inl rfl) (pe_op op_rep (pe_lst (pa_cons (pe_cal G_law_draw (hr.mono (by first | decide | omega)) rfl (pa_cons (pv 0) (pa_cons pe_int pa_nil))) pa_nil)) (pv 2)))
      (pss_cons (ps_if (PW.pt (pw_and (pt_cmpR op_gt (pv 1) pe_int (nomark _)) (pw_and1 (pt_cmpR (op_neL0 (Nat.lt_of_succ_lt (hu_of hr)) (K := K) rfl) (pv 3) (pe_lst pa_nil) (nomark _))))) (pss_one (ps_asg (pe_cal G_law_near (hr.mono (by first | decide | omega)) rfl (pa_cons (pv 0) (pa_cons pe_int pa_nil))) (pg_sub (pv 3) (pe_cal G_law_draw (hr.mono (by first | decide | omega)) rfl (pa_cons (pv 0) (pa_cons (pv 2) pa_nil))) set_list))) pss_nil)
      (pss_one (ps_ret (pv 3)))))))), ?rd⟩
    have hz : (5000 : Nat) ≤ sizeLine := by decide
    refine ⟨_, rfl, p, _, _, rfl, hB, by omega, by decide, by decide, fun r X1 hr1 hB1 k1 => ?_⟩
    have kX1 : KeepP p H X1 := fun b o hb e => by rw [k1 b hb]; exact e
    dsimp only [gName]
    refine ⟨_, rfl, p, _, _, rfl, hB1, by omega, by decide, by decide, fun r2 X2 hr2 hB2 k2 => ⟨_, _, rfl, rfl, ?_⟩⟩
    have kX2 : KeepP p H X2 := kX1.trans fun b o hb e => by rw [k2 b hb]; exact e
    dsimp only [gName]
    refine seq_step (fun σ X => σ = [some (.ref p), some (.int (r : Int)), some (.int (1 + (r2 : Int))), none] ∧ X = X2) (fun σ X => ∃ m : Nat, σ = [some (.ref p), some (.int (r : Int)), some (.int (m : Int)), none] ∧ m ≤ 4097 ∧ (5 < r → 1 ≤ m) ∧ BagAt X p (n + 2) ∧ KeepP p H X) ?_ ?_ _ _ ⟨rfl, rfl⟩
    · rintro σ X ⟨rfl, rfl⟩ N hN
      refine ⟨_, rfl, _, _, rfl, rfl, _, rfl, ite2 (fun h1 => ?_) (fun h1 => hN _ _ ⟨1 + r2, ?_, by omega, fun _ => by omega, hB2, kX2⟩)⟩
      · have h1 : r < 3 := by have := of_decide_eq_true h1; omega
        refine ⟨by show 3 ≤ sizeLine; decide, fun q hq => ⟨_, rfl, ?_⟩⟩
        obtain ⟨x, hx, ex⟩ : ∃ x : Nat, x ≤ 4097 ∧ atI [V.int 0, V.int 4096, V.int 4097] (r : Int) = some (.int (x : Int)) := by
          rcases (show r = 0 ∨ r = 1 ∨ r = 2 by omega) with rfl | rfl | rfl
          · exact ⟨0, by decide, rfl⟩
          · exact ⟨4096, by decide, rfl⟩
          · exact ⟨4097, by decide, rfl⟩
        exact ⟨q, _, _, _, rfl, rfl, SqL.of upd_same, ex, hN _ _ ⟨x, rfl, hx, fun h => by omega, hB2.same (same_new hq), kX2.trans (.of (same_new hq))⟩⟩
      · show [_, _, some (V.int (1 + (r2 : Int))), _] = _
        norm_cast
    rintro σ X ⟨m, rfl, hm, hm2, hBX, kX⟩
    -- row
    refine ⟨_, rfl, p, _, _, rfl, hBX, by omega, by decide, by decide, fun v X3 hv hB3 k3 => ?_⟩
    have kX3 : KeepP p X X3 := fun b o hb e => by rw [k3 b hb]; exact e
    refine ⟨by show 1 ≤ sizeLine; decide, fun q1 h1 => ⟨_, rfl, q1, _, _, rfl, rfl, upd_same, by omega, by omega, by rw [Int.toNat_natCast]; show 1 * m ≤ _; omega, fun D hD => ?_⟩⟩
    rw [Int.toNat_natCast, show (List.replicate m [V.int (v : Int)]).flatten = List.replicate m (V.int (v : Int)) from rep_flat1 m _, map_rep]
    have sq := same_new (o := .lst [.int (v : Int)]) h1
    have sD := sq.trans (same_new (o := .lst ((List.replicate m (v : Int)).map V.int)) hD)
    have nD : D ≠ p := (hB3.same sq).ne hD
    have HD : H D = none := by
      cases e : H D with
      | none => rfl
      | some o => rw [sq _ _ (kX3 _ _ nD (kX _ _ nD e))] at hD; cases hD
    dsimp only [gName]
    refine at_heap (fun B => BagAt B p (n + 3) ∧ B D = some (.lst ((List.replicate m (v : Int)).map V.int)) ∧ KeepP p H B) ⟨hB3.same sD, upd_same, (kX.trans kX3).trans (.of sD)⟩ fun B hB => ?_
    obtain ⟨hBB, eD, kB⟩ := hB
    clear sD sq h1 hD
    have hvs : ∀ x ∈ List.replicate m (v : Int), x.natAbs < 2 ^ 64 := fun x hx => by rw [List.eq_of_mem_replicate hx]; omega
    refine seq_step (fun σ X => σ = [some (.ref p), some (.int (r : Int)), some (.int (m : Int)), some (.ref D)] ∧ X = B) (fun σ X => ∃ ns : List Int, σ = [some (.ref p), some (.int (r : Int)), some (.int (m : Int)), some (.ref D)] ∧ X D = some (.lst (ns.map V.int)) ∧ ns.length ≤ 4097 ∧ (∀ x ∈ ns, x.natAbs < 2 ^ 64) ∧ BagAt X p (n + 50) ∧ KeepP p H X) ?_ ?_ _ _ ⟨rfl, rfl⟩
    · rintro σ X ⟨rfl, rfl⟩ N hN
      have stay : ∀ Y, Same X Y → N [some (.ref p), some (.int (r : Int)), some (.int (m : Int)), some (.ref D)] Y := fun Y s => hN _ _ ⟨List.replicate m (v : Int), rfl, s _ _ eD, by rw [List.length_replicate]; exact hm, hvs, (hBB.same s).mono (by omega), kB.trans (.of s)⟩
      refine ⟨_, rfl, _, _, rfl, rfl, _, rfl, ite2 (fun h1 => ?_) (fun h1 => iteF (stay _ (Same.refl _)))⟩
      refine ⟨_, rfl, by show 0 ≤ sizeLine; omega, fun e he => ⟨D, e, _, rfl, rfl, SqL.of (same_new he _ _ eD), SqL.of upd_same, _, rfl, ite2 (fun h2 => ?_) (fun h2 => stay _ (same_new he))⟩⟩
      have se := same_new (o := .lst []) he
      have h1' : 5 < r := by have := of_decide_eq_true h1; omega
      have := hm2 h1'
      -- the value first
      refine ⟨_, rfl, p, 255, _, rfl, by decide, by decide, hBB.same se, by omega, fun x Y1 hx hB1 k1 => ?_⟩
      refine ⟨_, rfl, _, rfl, _, rfl, p, _, _, rfl, hB1, by omega, by omega, by omega, fun j Y2 hj hB2 k2 => ?_⟩
      have kY2 : KeepP p X Y2 := (KeepP.of se).trans (k1.trans fun b o hb e => by rw [k2 b hb]; exact e)
      have eD2 := kY2 _ _ nD eD
      refine ⟨D, _, _, j, rfl, rfl, eD2, ixN_nat (by rw [List.length_map, List.length_replicate]; omega), ?_⟩
      refine hN _ _ ⟨(List.replicate m (v : Int)).set j x, rfl, by rw [upd_same, List.map_set], by rw [List.length_set, List.length_replicate]; exact hm, fun y hy => ?_, (hB2.upd nD).mono (by omega), fun b o hb e => ?_⟩
      · rcases List.mem_or_eq_of_mem_set hy with z | z
        · exact hvs y z
        · rw [z]; exact hx
      · rw [upd_ne (ne_of_none e HD)]; exact kY2 _ _ hb (kB _ _ hb e)
    rintro σ X ⟨ns, rfl, eN, hl, hb, hBX, kX⟩
    exact ⟨_, rfl, k D ns X HD eN hl hb hBX kX⟩
end
abbrev s_law_wanted : Stmt := top 41
theorem sc_law_wanted : FnScope ["bag", "kind", "many"] ["bag"] (defScope s_law_wanted) := ⟨rfl, rfl, rfl, by decide +kernel, rfl, by decide +kernel, by decide +kernel⟩
section
variable {P : Program} {w : World} {K : PySem.W.Frag} {mg : Str → Option Value} {base : Heap}
theorem ok_law_wanted {f : Addr} {fd : FuncData} (F : Fun K "_law_wanted" "_law_wanted" s_law_wanted f fd) (T : Blt mg) (G_law_draw : Cal P w K mg base 1 "_law_draw" ["bag", "many"] spDraw) (G_law_near : Cal P w K mg base 3 "_law_near" ["bag", "most"] spNearC) (G_law_words : Cal P w K mg base 4 "_law_words" ["bag"] spWordsC) : FnOk P w K mg base CX0 5 f fd ["bag"] spWanted := by
  refine F.ok sc_law_wanted (fun vs H Q E h => ?_) (fun cdv A outer s H vs Q E hr h => ?_)
  · obtain ⟨p, n, rfl, _⟩ := h; rfl
  · obtain ⟨p, n, rfl, hB, hn, k⟩ := h
    refine ⟨_, (pss_cons (ps_set (i := 1) sc_law_wanted.nd rfl (Or.inl rfl) (pe_ix ix_list (pe_lst (pa_cons pe_str (pa_cons pe_str (pa_cons pe_str (pa_cons pe_str (pa_cons pe_str (pa_cons pe_str pa_nil))))))) (pe_cal G_law_draw (hr.mono (by first | decide | omega)) rfl (pa_cons (pv 0) (pa_cons pe_int pa_nil))) (fun _ _ => rfl)))
      (pss_cons (ps_if (pt_cmpR op_eq (pv 1) pe_str (nomark _)) (pss_cons (ps_set (i := 2) sc_law_wanted.nd rfl (Or.inl rfl) (pe_cal G_law_near (hr.mono (by first | decide | omega)) rfl (pa_cons (pv 0) (pa_cons pe_int pa_nil))))
      (pss_one (ps_ret (pe_tup (pa_cons (pv 1) (pa_cons (pv 2) (pa_cons (pe_lst (pa_cons (pe_cal G_law_near (hr.mono (by first | decide | omega)) rfl (pa_cons (pv 0) (pa_cons pe_int pa_nil))) pa_nil)) pa_nil))))))) pss_nil)
      (pss_cons (ps_if (pt_cmpR op_eq (pv 1) pe_str (nomark _)) (pss_one (ps_ret (pe_tup (pa_cons (pv 1) (pa_cons pe_int (pa_cons (pe_cal G_law_words (hr.mono (by first | decide | omega)) rfl (pa_cons (pv 0) pa_nil)) pa_nil)))))) pss_nil)
      (pss_cons (ps_if (pt_cmpR op_eq (pv 1) pe_str (nomark _)) (pss_one (ps_ret (pe_tup (pa_cons (pv 1) (pa_cons (pe_cal G_law_near (hr.mono (by first | decide | omega)) rfl (pa_cons (pv 0) (pa_cons pe_int pa_nil))) (pa_cons (pe_lst pa_nil) pa_nil)))))) pss_nil)
      (pss_one (ps_ret (pe_tup (pa_cons (pv 1) (pa_cons pe_int (pa_cons (pe_lst (pa_cons (pe_cal G_law_near (hr.mono (by first | decide | omega)) rfl (pa_cons (pv 0) (pa_cons pe_int pa_nil))) pa_nil)) pa_nil)))))))))), ?rd⟩
    refine ⟨by show 6 ≤ sizeLine; decide, fun q hq => ⟨_, rfl, p, _, _, rfl, hB.same (same_new hq), by omega, by decide, by decide, fun r X1 hr1 hB1 k1 => ?_⟩⟩
    have kX1 : KeepP p H X1 := fun b o hb e => by rw [k1 b hb]; exact same_new hq _ _ e
    have nq : q ≠ p := hB.ne hq
    obtain ⟨kd, hkd, ek⟩ : ∃ kd : Nat, kd < 5 ∧ atI [V.str "store", V.str "store", V.str "fixed", V.str "latch", V.str "meter", V.str "pipe"] (r : Int) = some (.str (kdN kd)) := by
      rcases (show r = 0 ∨ r = 1 ∨ r = 2 ∨ r = 3 ∨ r = 4 ∨ r = 5 by omega) with rfl | rfl | rfl | rfl | rfl | rfl
      · exact ⟨0, by decide, rfl⟩
      · exact ⟨0, by decide, rfl⟩
      · exact ⟨1, by decide, rfl⟩
      · exact ⟨2, by decide, rfl⟩
      · exact ⟨3, by decide, rfl⟩
      · exact ⟨4, by decide, rfl⟩
    refine ⟨q, _, _, _, rfl, rfl, SqL.of (by rw [k1 q nq]; exact upd_same), ek, ?_⟩
    dsimp only [gName]
    clear ek hr1 k1
    -- one word
    have one : ∀ (kd : Nat) (many : Int) (X : Hp), (kd = 0 ∨ kd = 2 ∨ kd = 3) → many.natAbs < 2 ^ 64 → BagAt X p (n + 21) → KeepP p H X → ∀ (x : Int) (X2 : Hp), x.natAbs < 2 ^ 64 → BagAt X2 p (n + 41) → KeepP p X X2 → ∀ (l : Addr), X2 l = none → ∀ t, upd X2 l (.lst [.int x]) t = none → Q (.ref t) (upd (upd X2 l (.lst [.int x])) t (.tup [.str (kdN kd), .int many, .ref l])) :=
      fun kd many X hk hm hBX kX x X2 hx hB2 k2 l hl t ht => by
        have sl := same_new (o := .lst [.int x]) hl
        have st := sl.trans (same_new (o := .tup [.str (kdN kd), .int many, .ref l]) ht)
        refine k t l kd many [x] _ ⟨by omega, fun _ => ⟨x, rfl⟩, fun h => by omega, hm, fun y hy => by rw [List.mem_singleton.mp hy]; exact hx, by simp⟩ (hB2.ne hl) upd_same (same_new ht _ _ upd_same) ((hB2.same st).mono (by omega)) ((kX.trans k2).trans (.of st))
    rcases (show kd = 0 ∨ kd = 1 ∨ kd = 2 ∨ kd = 3 ∨ kd = 4 by omega) with rfl | rfl | rfl | rfl | rfl
    · refine ⟨_, rfl, rfl, _, rfl, iteT ?_⟩
      refine ⟨_, rfl, p, 4096, _, rfl, by decide, by decide, hB1, by omega, fun many X2 hm hB2 k2 => ?_⟩
      refine ⟨_, rfl, _, rfl, _, rfl, p, 255, _, rfl, by decide, by decide, hB2, by omega, fun x X3 hx hB3 k3 => ?_⟩
      exact ⟨by show 1 ≤ sizeLine; decide, fun l hl => ⟨by show 3 ≤ sizeLine; decide, fun t ht => one 0 many X2 (.inl rfl) hm (hB2.mono (by omega)) (kX1.trans k2) x X3 hx (hB3.mono (by omega)) k3 l hl t ht⟩⟩
    · refine ⟨_, rfl, rfl, _, rfl, iteF ⟨_, rfl, rfl, _, rfl, iteT ?_⟩⟩
      refine ⟨_, rfl, _, rfl, p, _, rfl, hB1, by omega, fun l ns X2 hl el hln hnb hB2 k2 => ⟨by show 3 ≤ sizeLine; decide, fun t ht => ?_⟩⟩
      have st := same_new (o := .tup [.str (kdN 1), .int 0, .ref l]) ht
      exact k t l 1 0 ns _ ⟨by decide, fun h => by omega, fun h => by omega, by decide, hnb, hln⟩ (hB1.ne hl) upd_same (st _ _ el) ((hB2.same st).mono (by omega)) ((kX1.trans k2).trans (.of st))
    · refine ⟨_, rfl, rfl, _, rfl, iteF ⟨_, rfl, rfl, _, rfl, iteF ⟨_, rfl, rfl, _, rfl, iteF ?_⟩⟩⟩
      refine ⟨_, rfl, _, rfl, p, 255, _, rfl, by decide, by decide, hB1, by omega, fun x X3 hx hB3 k3 => ?_⟩
      exact ⟨by show 1 ≤ sizeLine; decide, fun l hl => ⟨by show 3 ≤ sizeLine; decide, fun t ht => one 2 0 X1 (.inr (.inl rfl)) (by decide) (hB1.mono (by omega)) kX1 x X3 hx (hB3.mono (by omega)) k3 l hl t ht⟩⟩
    · refine ⟨_, rfl, rfl, _, rfl, iteF ⟨_, rfl, rfl, _, rfl, iteF ⟨_, rfl, rfl, _, rfl, iteF ?_⟩⟩⟩
      refine ⟨_, rfl, _, rfl, p, 255, _, rfl, by decide, by decide, hB1, by omega, fun x X3 hx hB3 k3 => ?_⟩
      exact ⟨by show 1 ≤ sizeLine; decide, fun l hl => ⟨by show 3 ≤ sizeLine; decide, fun t ht => one 3 0 X1 (.inr (.inr rfl)) (by decide) (hB1.mono (by omega)) kX1 x X3 hx (hB3.mono (by omega)) k3 l hl t ht⟩⟩
    · refine ⟨_, rfl, rfl, _, rfl, iteF ⟨_, rfl, rfl, _, rfl, iteF ⟨_, rfl, rfl, _, rfl, iteT ?_⟩⟩⟩
      refine ⟨_, rfl, _, rfl, p, 255, _, rfl, by decide, by decide, hB1, by omega, fun many X2 hm hB2 k2 => ?_⟩
      refine ⟨by show 0 ≤ sizeLine; decide, fun l hl => ⟨by show 3 ≤ sizeLine; decide, fun t ht => ?_⟩⟩
      have sl := same_new (o := .lst []) hl
      have st := sl.trans (same_new (o := .tup [.str (kdN 4), .int many, .ref l]) ht)
      exact k t l 4 many [] _ ⟨by decide, fun h => by omega, fun _ => rfl, hm, (fun y hy => nomatch hy), by simp⟩ (hB2.ne hl) upd_same (same_new ht _ _ upd_same) ((hB2.same st).mono (by omega)) ((kX1.trans k2).trans (.of st))
end
abbrev s_law_only : Stmt := top 38
theorem sc_law_only : FnScope ["due", "some"] ["due"] (defScope s_law_only) := ⟨rfl, rfl, rfl, by decide +kernel, rfl, by decide +kernel, by decide +kernel⟩
section
variable {P : Program} {w : World} {K : PySem.W.Frag} {mg : Str → Option Value} {base : Heap}
theorem ok_law_only {f : Addr} {fd : FuncData} (F : Fun K "_law_only" "_law_only" s_law_only f fd) (T : Blt mg) : FnOk P w K mg base CX0 1 f fd ["due"] spOnly := by
  refine F.ok sc_law_only (fun vs H Q E h => ?_) (fun cdv A outer s H vs Q E hr h => ?_)
  · obtain ⟨due, rfl, _⟩ := h; rfl
  · obtain ⟨due, rfl, k⟩ := h
    refine' ⟨_, (pss_cons (ps_set (i := 1) sc_law_only.nd rfl (Or.inl rfl) (pe_lst (pa_cons pe_str (pa_cons pe_str (pa_cons pe_str (pa_cons pe_str (pa_cons pe_str (pa_cons pe_str (pa_cons pe_str (pa_cons pe_str (pa_cons pe_str pa_nil)))))))))))
      (pss_one (ps_ret (pe_op op_catS (pe_lst (pa_cons pe_bl pa_nil)) ?c1)))), ?rd⟩
    (case c1 => exact (pe_comp (Nc := ["one", "due"]) [none, some 0] rfl (compOk_of (by rfl)) (pi_list (pe_op op_catS (pv 1) (pe_lst (pa_cons pe_str (pa_cons pe_str pa_nil))))) (fun _ _ _ _ _ => (pg_name (i := 0) (show (["one", "due"] : List Str).Nodup by decide +kernel) rfl (Or.inl rfl))) (fun _ _ _ _ _ => pf_nil) (fun _ _ _ _ _ => (pe_cmpR op_eq (pv 0) (pv 1) (nomark _)))))
    refine ⟨by show 9 ≤ sizeLine; decide, fun L hL => ?_⟩
    have sL := same_new (o := .lst [V.str "TooMany", V.str "NoChip", V.str "NoCell", V.str "NoMap", V.str "NoWatch", V.str "NoMover", V.str "NoText", V.str "NoWord", V.str "NoAddress"]) hL
    refine ⟨by show 1 ≤ sizeLine; decide, fun q1 h1 => ?_⟩
    have s1 := sL.trans (same_new (o := .lst [V.bl true]) h1)
    refine ⟨_, rfl, by show 2 ≤ sizeLine; decide, fun q2 h2 => ?_⟩
    have s2 := s1.trans (same_new (o := .lst [V.str "Clash", V.str "BadRow"]) h2)
    refine ⟨L, q2, _, _, rfl, rfl, SqL.of (same_new h2 _ _ (same_new h1 _ _ upd_same)), SqL.of upd_same, by show 11 ≤ sizeLine; decide, fun q3 h3 => ?_⟩
    have s3 := s2.trans (same_new (o := .lst (xNames.map V.str)) h3)
    refine ⟨q3, rfl, ⟨_, SqL.of upd_same⟩, ?_⟩
    have e1 : ∀ Y : Hp, Same (upd (upd (upd (upd H L (.lst [V.str "TooMany", V.str "NoChip", V.str "NoCell", V.str "NoMap", V.str "NoWatch", V.str "NoMover", V.str "NoText", V.str "NoWord", V.str "NoAddress"])) q1 (.lst [V.bl true])) q2 (.lst [V.str "Clash", V.str "BadRow"])) q3 (.lst (xNames.map V.str))) Y → Y q1 = some (.lst [V.bl true]) := fun Y s => s _ _ (same_new h3 _ _ (same_new h2 _ _ upd_same))
    refine at_heap (fun B => Same H B ∧ B q3 = some (.lst (xNames.map V.str)) ∧ B q1 = some (.lst [V.bl true])) ⟨s3, upd_same, e1 _ (Same.refl _)⟩ fun B hB => ?_
    clear e1 s1 s2 s3 sL
    obtain ⟨sB, eq3, eq1⟩ := hB
    refine comp_list (K := K) (a := q3) (xs := xNames.map V.str) (fun i ys σ Y => ∃ v0 : Option V, σ = [v0, some (.str due)] ∧ ys = ((xNames.take i).map fun n => decide (V.str n = V.str due)).map V.bl ∧ Y = B) (by rw [List.length_map]; show 11 ≤ sizeLine; decide) ⟨none, rfl, rfl, rfl⟩ ?_ ?_ ?_
    · rintro i ys σ Y hi ⟨v0, _, rfl, rfl⟩
      exact ⟨SqL.of eq3, by rw [List.length_map, List.length_map, List.length_take]; omega⟩
    · rintro i x ys σ Y hx ⟨v0, rfl, rfl, rfl⟩
      rw [List.getElem?_map] at hx
      obtain ⟨n, hn, rfl⟩ := Option.map_eq_some_iff.mp hx
      refine ⟨_, rfl, _, rfl, rfl, _, rfl, ?_, rfl⟩
      rw [List.take_succ, hn]
      show _ = List.map V.bl (List.map _ (xNames.take i ++ [n]))
      rw [List.map_append, List.map_append]; rfl
    rintro ys σ Y ⟨v0, _, rfl, rfl⟩ D hD
    rw [List.length_map, List.take_of_length_le (Nat.le_refl _)]
    have sD := same_new (o := .lst ((xNames.map fun n => decide (V.str n = V.str due)).map V.bl)) hD
    refine ⟨q1, D, _, _, rfl, rfl, SqL.of (sD _ _ eq1), SqL.of upd_same, by rw [List.length_map, List.length_map]; show 1 + 11 ≤ sizeLine; decide, fun q5 h5 => ?_⟩
    exact k q5 _ upd_same (sB.trans (sD.trans (same_new h5)))
end
abbrev s_law_made : Stmt := top 42
theorem sc_law_made : FnScope ["kind", "many", "row", "named"] ["kind", "many", "row", "named"] (defScope s_law_made) := ⟨rfl, rfl, rfl, by decide +kernel, rfl, by decide +kernel, by decide +kernel⟩
section
variable {P : Program} {w : World} {K : PySem.W.Frag} {mg : Str → Option Value} {base : Heap}
theorem ok_law_made {f CT_NoChip : Addr} {cs : Nat → Addr} {fd : FuncData} (F : Fun K "_law_made" "_law_made" s_law_made f fd) (T : Blt mg)
    (GMXStore_cells_word : MakX P w K mg base 3 "Store" (cs 0) ["cells", "word"] k2n (spMkSX (cs 0) CT_NoChip)) (GMXStore_2 : MakX P w K mg base 3 "Store" (cs 0) [] (dP []) (spMkSX (cs 0) CT_NoChip)) (GMXFixed_words : MakX P w K mg base 3 "Fixed" (cs 1) ["words"] k1 (spMkFX (cs 1) CT_NoChip)) (GMXFixed_1 : MakX P w K mg base 3 "Fixed" (cs 1) [] (dP []) (spMkFX (cs 1) CT_NoChip))
    (GMXPipe_room : MakX P w K mg base 3 "Pipe" (cs 4) ["room"] k1 (spMkPX (cs 4) CT_NoChip)) (GMXPipe_1 : MakX P w K mg base 3 "Pipe" (cs 4) [] (dP []) (spMkPX (cs 4) CT_NoChip)) (GMXLatch_word : MakX P w K mg base 3 "Latch" (cs 2) ["word"] k1 (spMk1X (cs 2) CT_NoChip)) (GMXLatch_1 : MakX P w K mg base 3 "Latch" (cs 2) [] (dP []) (spMk1X (cs 2) CT_NoChip))
    (GMXMeter_word : MakX P w K mg base 3 "Meter" (cs 3) ["word"] k1 (spMk1X (cs 3) CT_NoChip)) (GMXMeter_1 : MakX P w K mg base 3 "Meter" (cs 3) [] (dP []) (spMk1X (cs 3) CT_NoChip)) : FnOk P w K mg base (CX1 P w) 5 f fd ["kind", "many", "row", "named"] (spMade21 cs CT_NoChip) := by
  refine F.okX sc_law_made (fun vs H Q E h => ?_) (fun cdv A outer s H vs Q E hr h => ?_)
  · obtain ⟨kd, many, l, row, nm, rfl, _⟩ := h; rfl
  · obtain ⟨kd, many, l, row, nm, rfl, ha, el, kg, kb⟩ := h
    refine ⟨_, (pss_cons (ps_if (PT.nox (pt_cmpR op_eq (pv 0) pe_str (nomark _))) (pss_cons (ps_if (PT.nox (pt_val (pv 3))) (pss_one (ps_ret (pe_makKS GMXStore_cells_word (hr.mono (by first | decide | omega)) rfl (Passes.s x_passes) (pk_cons (pv 1) (pk_cons (pe_ix ix_list (pv 2) pe_int (fun _ _ => rfl)) pk_nil))))) pss_nil)
      (pss_one (ps_ret (pe_makS GMXStore_2 (hr.mono (by first | decide | omega)) rfl (Passes.s x_passes) (pa_cons (pv 1) (pa_cons (pe_ix ix_list (pv 2) pe_int (fun _ _ => rfl)) pa_nil)))))) pss_nil)
      (pss_cons (ps_if (PT.nox (pt_cmpR op_eq (pv 0) pe_str (nomark _))) (pss_cons (ps_if (PT.nox (pt_val (pv 3))) (pss_one (ps_ret (pe_makKS GMXFixed_words (hr.mono (by first | decide | omega)) rfl (Passes.s x_passes) (pk_cons (pe_callTy call_list_of (by rfl) T.list bt_list (pa_cons (pv 2) pa_nil)) pk_nil)))) pss_nil)
      (pss_one (ps_ret (pe_makS GMXFixed_1 (hr.mono (by first | decide | omega)) rfl (Passes.s x_passes) (pa_cons (pe_callTy call_list_of (by rfl) T.list bt_list (pa_cons (pv 2) pa_nil)) pa_nil))))) pss_nil)
      (pss_cons (ps_if (PT.nox (pt_cmpR op_eq (pv 0) pe_str (nomark _))) (pss_cons (ps_if (PT.nox (pt_val (pv 3))) (pss_one (ps_ret (pe_makKS GMXPipe_room (hr.mono (by first | decide | omega)) rfl (Passes.s x_passes) (pk_cons (pv 1) pk_nil)))) pss_nil)
      (pss_one (ps_ret (pe_makS GMXPipe_1 (hr.mono (by first | decide | omega)) rfl (Passes.s x_passes) (pa_cons (pv 1) pa_nil))))) pss_nil)
      (pss_cons (ps_if (PT.nox (pt_cmpR op_eq (pv 0) pe_str (nomark _))) (pss_cons (ps_if (PT.nox (pt_val (pv 3))) (pss_one (ps_ret (pe_makKS GMXLatch_word (hr.mono (by first | decide | omega)) rfl (Passes.s x_passes) (pk_cons (pe_ix ix_list (pv 2) pe_int (fun _ _ => rfl)) pk_nil)))) pss_nil)
      (pss_one (ps_ret (pe_makS GMXLatch_1 (hr.mono (by first | decide | omega)) rfl (Passes.s x_passes) (pa_cons (pe_ix ix_list (pv 2) pe_int (fun _ _ => rfl)) pa_nil))))) pss_nil)
      (pss_cons (ps_if (PT.nox (pt_val (pv 3))) (pss_one (ps_ret (pe_makKS GMXMeter_word (hr.mono (by first | decide | omega)) rfl (Passes.s x_passes) (pk_cons (pe_ix ix_list (pv 2) pe_int (fun _ _ => rfl)) pk_nil)))) pss_nil)
      (pss_one (ps_ret (pe_makS GMXMeter_1 (hr.mono (by first | decide | omega)) rfl (Passes.s x_passes) (pa_cons (pe_ix ix_list (pv 2) pe_int (fun _ _ => rfl)) pa_nil))))))))), ?rd⟩
    rcases (show kd = 0 ∨ kd = 1 ∨ kd = 2 ∨ kd = 3 ∨ kd = 4 by have := ha.kd5; omega) with rfl | rfl | rfl | rfl | rfl
    · obtain ⟨x, rfl⟩ := ha.one (.inl rfl)
      have go : ∀ (x0 dx : Addr), H x0 = none → H dx = none → dx ≠ x0 → spMkSX (cs 0) CT_NoChip [.ref x0, .int many, .int x] (upd (upd H dx (.own x0)) x0 (.ins (cs 0) dx [])) (fun v H3 => v = .non ∧ Q (.ref x0) H3) E := by
        intro x0 dx h0 hd hn
        refine ⟨x0, dx, many, x, rfl, ask_lt ha.mb, ask_lt (ha.rb x (List.mem_singleton.mpr rfl)), upd_same, fun m em h1 h2 h3 h4 p H' hp o kp => ⟨rfl, ?_⟩, fun hb H' s => ?_⟩
        · refine kg ⟨(fun z hz => by rw [List.mem_singleton.mp hz]; exact ⟨h3, h4⟩), (fun _ => by omega), (fun h => by cases h), (fun h => by cases h)⟩ x0 p [] H' ?_ (mk_same h0 hd kp)
          rw [due_store em]; exact o
        · exact kb (fun g => hb ⟨(g.st rfl).1, (g.st rfl).2, (g.ws x (List.mem_singleton.mpr rfl)).1, (g.ws x (List.mem_singleton.mpr rfl)).2⟩) H' (Same.trans (same_mk h0 hd) s)
      refine ⟨_, rfl, rfl, _, rfl, iteD1 (by decide) ?_⟩
      refine ⟨_, rfl, _, rfl, ?_⟩
      cases nm
      · refine iteF (next_of ?_)
        exact ⟨_, rfl, _, rfl, l, _, _, _, rfl, rfl, SqL.of el, rfl, go⟩
      · exact iteT ⟨_, rfl, _, rfl, l, _, _, _, rfl, rfl, SqL.of el, rfl, go⟩
    · have go : ∀ q, H q = none → ∀ (x0 dx : Addr), (upd H q (.lst (row.map V.int))) x0 = none → (upd H q (.lst (row.map V.int))) dx = none → dx ≠ x0 → spMkFX (cs 1) CT_NoChip [.ref x0, .ref q] (upd (upd (upd H q (.lst (row.map V.int))) dx (.own x0)) x0 (.ins (cs 1) dx [])) (fun v H3 => v = .non ∧ Q (.ref x0) H3) E := by
        intro q hq x0 dx h0 hd hn
        refine ⟨x0, dx, q, row, rfl, same_mk h0 hd _ _ upd_same, by have := ha.rl; omega, upd_same, fun h1 h2 h3 p H' hp o kp => ⟨rfl, ?_⟩, fun hb H' s => ?_⟩
        · exact kg ⟨h3, (fun h => by cases h), (fun _ => ⟨h1, h2⟩), (fun h => by cases h)⟩ x0 p [] H' o ((same_new hq).trans (mk_same h0 hd kp))
        · exact kb (fun g => hb ⟨(g.fx rfl).1, (g.fx rfl).2, g.ws⟩) H' ((same_new hq).trans (Same.trans (same_mk h0 hd) s))
      refine ⟨_, rfl, rfl, _, rfl, iteD0 (by decide) (next_of ?_)⟩
      refine ⟨_, rfl, rfl, _, rfl, iteD1 (by decide) ?_⟩
      refine ⟨_, rfl, _, rfl, ?_⟩
      cases nm
      · refine iteF (next_of ?_)
        exact ⟨_, rfl, l, _, rfl, .inl (SqL.of el), go⟩
      · exact iteT ⟨_, rfl, l, _, rfl, .inl (SqL.of el), go⟩
    · obtain ⟨x, rfl⟩ := ha.one (.inr (.inl rfl))
      have go : ∀ (x0 dx : Addr), H x0 = none → H dx = none → dx ≠ x0 → spMk1X (cs 2) CT_NoChip [.ref x0, .int x] (upd (upd H dx (.own x0)) x0 (.ins (cs 2) dx [])) (fun v H3 => v = .non ∧ Q (.ref x0) H3) E := by
        intro x0 dx h0 hd hn
        refine ⟨x0, dx, x, rfl, ask_lt (ha.rb x (List.mem_singleton.mpr rfl)), upd_same, fun h3 h4 p H' hp o kp => ⟨rfl, ?_⟩, fun hb H' s => ?_⟩
        · exact kg ⟨(fun z hz => by rw [List.mem_singleton.mp hz]; exact ⟨h3, h4⟩), (fun h => by cases h), (fun h => by cases h), (fun h => by cases h)⟩ x0 p [] H' o (mk_same h0 hd kp)
        · exact kb (fun g => hb ⟨(g.ws x (List.mem_singleton.mpr rfl)).1, (g.ws x (List.mem_singleton.mpr rfl)).2⟩) H' (Same.trans (same_mk h0 hd) s)
      refine ⟨_, rfl, rfl, _, rfl, iteD0 (by decide) (next_of ?_)⟩
      refine ⟨_, rfl, rfl, _, rfl, iteD0 (by decide) (next_of ?_)⟩
      refine ⟨_, rfl, rfl, _, rfl, iteD0 (by decide) (next_of ?_)⟩
      refine ⟨_, rfl, rfl, _, rfl, iteD1 (by decide) ?_⟩
      refine ⟨_, rfl, _, rfl, ?_⟩
      cases nm
      · refine iteF (next_of ?_)
        exact ⟨_, rfl, l, _, _, _, rfl, rfl, SqL.of el, rfl, go⟩
      · exact iteT ⟨_, rfl, l, _, _, _, rfl, rfl, SqL.of el, rfl, go⟩
    · obtain ⟨x, rfl⟩ := ha.one (.inr (.inr rfl))
      have go : ∀ (x0 dx : Addr), H x0 = none → H dx = none → dx ≠ x0 → spMk1X (cs 3) CT_NoChip [.ref x0, .int x] (upd (upd H dx (.own x0)) x0 (.ins (cs 3) dx [])) (fun v H3 => v = .non ∧ Q (.ref x0) H3) E := by
        intro x0 dx h0 hd hn
        refine ⟨x0, dx, x, rfl, ask_lt (ha.rb x (List.mem_singleton.mpr rfl)), upd_same, fun h3 h4 p H' hp o kp => ⟨rfl, ?_⟩, fun hb H' s => ?_⟩
        · exact kg ⟨(fun z hz => by rw [List.mem_singleton.mp hz]; exact ⟨h3, h4⟩), (fun h => by cases h), (fun h => by cases h), (fun h => by cases h)⟩ x0 p [] H' o (mk_same h0 hd kp)
        · exact kb (fun g => hb ⟨(g.ws x (List.mem_singleton.mpr rfl)).1, (g.ws x (List.mem_singleton.mpr rfl)).2⟩) H' (Same.trans (same_mk h0 hd) s)
      refine ⟨_, rfl, rfl, _, rfl, iteD0 (by decide) (next_of ?_)⟩
      refine ⟨_, rfl, rfl, _, rfl, iteD0 (by decide) (next_of ?_)⟩
      refine ⟨_, rfl, rfl, _, rfl, iteD0 (by decide) (next_of ?_)⟩
      refine ⟨_, rfl, rfl, _, rfl, iteD0 (by decide) (next_of ?_)⟩
      refine ⟨_, rfl, _, rfl, ?_⟩
      cases nm
      · refine iteF (next_of ?_)
        exact ⟨_, rfl, l, _, _, _, rfl, rfl, SqL.of el, rfl, go⟩
      · exact iteT ⟨_, rfl, l, _, _, _, rfl, rfl, SqL.of el, rfl, go⟩
    · obtain rfl := ha.pip rfl
      have go : ∀ (x0 dx : Addr), H x0 = none → H dx = none → dx ≠ x0 → spMkPX (cs 4) CT_NoChip [.ref x0, .int many] (upd (upd H dx (.own x0)) x0 (.ins (cs 4) dx [])) (fun v H3 => v = .non ∧ Q (.ref x0) H3) E := by
        intro x0 dx h0 hd hn
        refine ⟨x0, dx, many, rfl, ask_lt ha.mb, upd_same, fun h3 h4 p H' hp o kp => ⟨rfl, ?_⟩, fun hb H' s => ?_⟩
        · exact kg ⟨(fun z hz => by cases hz), (fun h => by cases h), (fun h => by cases h), (fun _ => ⟨h3, h4⟩)⟩ x0 p _ H' o (mk_same h0 hd kp)
        · exact kb (fun g => hb (g.pp rfl)) H' (Same.trans (same_mk h0 hd) s)
      refine ⟨_, rfl, rfl, _, rfl, iteD0 (by decide) (next_of ?_)⟩
      refine ⟨_, rfl, rfl, _, rfl, iteD0 (by decide) (next_of ?_)⟩
      refine ⟨_, rfl, rfl, _, rfl, iteD1 (by decide) ?_⟩
      refine ⟨_, rfl, _, rfl, ?_⟩
      cases nm
      · refine iteF (next_of ?_)
        exact ⟨_, rfl, go⟩
      · exact iteT ⟨_, rfl, go⟩
end
abbrev s_law_asked : Stmt := top 43
theorem sc_law_asked : FnScope ["kind", "many", "row", "named", "marks", "chip", "e"] ["kind", "many", "row", "named"] (defScope s_law_asked) := ⟨rfl, rfl, rfl, by decide +kernel, rfl, by decide +kernel, by decide +kernel⟩
section
variable {P : Program} {w : World} {K : PySem.W.Frag} {mg : Str → Option Value} {base : Heap}
theorem ok_law_asked {f CT_NoChip CB c1 c2 c3 c4 c5 c6 c7 c8 c9 c10 : Addr} {cs : Nat → Addr} {fd : FuncData} (F : Fun K "_law_asked" "_law_asked" s_law_asked f fd) (T : Blt mg) (GBValueError : mg "ValueError" = none) (GX_law_made : CalX P w K mg base 5 "_law_made" ["kind", "many", "row", "named"] (spMade21 cs CT_NoChip)) (GEBusError : mg "BusError" = some (.ref CB))
    (GNoChip : mg "NoChip" = some (.ref CT_NoChip)) (GTooMany : mg "TooMany" = some (.ref c1)) (GNoCell : mg "NoCell" = some (.ref c2)) (GNoMap : mg "NoMap" = some (.ref c3)) (GNoWatch : mg "NoWatch" = some (.ref c4)) (GNoMover : mg "NoMover" = some (.ref c5)) (GNoText : mg "NoText" = some (.ref c6)) (GNoWord : mg "NoWord" = some (.ref c7)) (GNoAddress : mg "NoAddress" = some (.ref c8)) (GClash : mg "Clash" = some (.ref c9)) (GBadRow : mg "BadRow" = some (.ref c10))
    (xc : XCls K CT_NoChip) (x0 : PySem.W.exmOne K (.ref CT_NoChip) (.ref CB) = some true) (xv : PySem.W.kitOne K (.ref CT_NoChip) (.type "ValueError") = some true) (xn : PySem.W.kitOne K (.ref CT_NoChip) (.ref CT_NoChip) = some true)
    (x1 : PySem.W.kitOne K (.ref CT_NoChip) (.ref c1) = some false) (x2 : PySem.W.kitOne K (.ref CT_NoChip) (.ref c2) = some false) (x3 : PySem.W.kitOne K (.ref CT_NoChip) (.ref c3) = some false) (x4 : PySem.W.kitOne K (.ref CT_NoChip) (.ref c4) = some false) (x5 : PySem.W.kitOne K (.ref CT_NoChip) (.ref c5) = some false)
    (x6 : PySem.W.kitOne K (.ref CT_NoChip) (.ref c6) = some false) (x7 : PySem.W.kitOne K (.ref CT_NoChip) (.ref c7) = some false) (x8 : PySem.W.kitOne K (.ref CT_NoChip) (.ref c8) = some false) (x9 : PySem.W.kitOne K (.ref CT_NoChip) (.ref c9) = some false) (x10 : PySem.W.kitOne K (.ref CT_NoChip) (.ref c10) = some false) :
    FnOk P w K mg base CX0 6 f fd ["kind", "many", "row", "named"] (spAsked21 cs) := by
  refine F.ok sc_law_asked (fun vs H Q E h => ?_) (fun cdv A outer s H vs Q E hr h => ?_)
  · obtain ⟨kd, many, l, row, nm, rfl, _⟩ := h; rfl
  · obtain ⟨kd, many, l, row, nm, rfl, ha, el, kg, kb⟩ := h
    refine ⟨_, (pss_cons (ps_set (i := 4) sc_law_asked.nd rfl (Or.inl rfl) (pe_lst pa_nil))
      (pss_cons (ps_set (i := 5) sc_law_asked.nd rfl (Or.inl rfl) pe_non)
      (pss_cons (ps_try1 (j := 6) (fun pins E => (pss_one (ps_set (i := 5) sc_law_asked.nd rfl (Or.inl rfl) (pe_calS GX_law_made (hr.mono (by first | decide | omega)) rfl (pass_tried rfl) (pa_cons (pv 0) (pa_cons (pv 1) (pa_cons (pv 2) (pa_cons (pv 3) pa_nil)))))))) (fun ea => (pss_cons (ps_set (i := 4) sc_law_asked.nd rfl (Or.inl rfl) (pe_lst (pa_cons (pe_callB (call_isX (K := K) rfl) (by rfl) T.isinstance bt_isi (pa_cons (pv 6) (pa_cons (pe_bltn rfl GBValueError bt_ValueError rl_ValueError) pa_nil))) (pa_cons (pe_callB (call_isX (K := K) rfl) (by rfl) T.isinstance bt_isi (pa_cons (pv 6) (pa_cons (pe_globX rfl GTooMany) pa_nil))) (pa_cons (pe_callB (call_isX (K := K) rfl) (by rfl) T.isinstance bt_isi (pa_cons (pv 6) (pa_cons (pe_globX rfl GNoChip) pa_nil))) (pa_cons (pe_callB (call_isX (K := K) rfl) (by rfl) T.isinstance bt_isi (pa_cons (pv 6) (pa_cons (pe_globX rfl GNoCell) pa_nil))) pa_nil))))))
      (pss_cons (ps_set (i := 4) sc_law_asked.nd rfl (Or.inl rfl) (pe_op (op_catSE (K := K) rfl) (pv 4) (pe_lst (pa_cons (pe_callB (call_isX (K := K) rfl) (by rfl) T.isinstance bt_isi (pa_cons (pv 6) (pa_cons (pe_globX rfl GNoMap) pa_nil))) (pa_cons (pe_callB (call_isX (K := K) rfl) (by rfl) T.isinstance bt_isi (pa_cons (pv 6) (pa_cons (pe_globX rfl GNoWatch) pa_nil))) (pa_cons (pe_callB (call_isX (K := K) rfl) (by rfl) T.isinstance bt_isi (pa_cons (pv 6) (pa_cons (pe_globX rfl GNoMover) pa_nil))) (pa_cons (pe_callB (call_isX (K := K) rfl) (by rfl) T.isinstance bt_isi (pa_cons (pv 6) (pa_cons (pe_globX rfl GNoText) pa_nil))) pa_nil)))))))
      (pss_one (ps_set (i := 4) sc_law_asked.nd rfl (Or.inl rfl) (pe_op (op_catSE (K := K) rfl) (pv 4) (pe_lst (pa_cons (pe_callB (call_isX (K := K) rfl) (by rfl) T.isinstance bt_isi (pa_cons (pv 6) (pa_cons (pe_globX rfl GNoWord) pa_nil))) (pa_cons (pe_callB (call_isX (K := K) rfl) (by rfl) T.isinstance bt_isi (pa_cons (pv 6) (pa_cons (pe_globX rfl GNoAddress) pa_nil))) (pa_cons (pe_callB (call_isX (K := K) rfl) (by rfl) T.isinstance bt_isi (pa_cons (pv 6) (pa_cons (pe_globX rfl GClash) pa_nil))) (pa_cons (pe_callB (call_isX (K := K) rfl) (by rfl) T.isinstance bt_isi (pa_cons (pv 6) (pa_cons (pe_globX rfl GBadRow) pa_nil))) pa_nil))))))))))) rfl sc_law_asked.nd rfl rfl GEBusError ⟨rfl, rfl⟩ rfl (fun ea => rfl))
      (pss_one (ps_ret (pe_tup (pa_cons (pv 4) (pa_cons (pv 5) pa_nil)))))))), ?rd⟩
    refine ⟨by show 0 ≤ sizeLine; decide, fun q0 hq0 => ?_⟩
    refine ⟨_, rfl, _, rfl, _, rfl, _, rfl, kd, many, l, row, nm, rfl, ha, same_new hq0 _ _ el, fun hg a p ext H' o s1 => ?_, fun hb H' s1 => ⟨x0, fun ea hea => ?_⟩⟩
    · refine ⟨_, rfl, _, rfl, by show 2 ≤ sizeLine; decide, fun t ht => ?_⟩
      exact kg hg t q0 a p ext _ upd_same (same_new ht _ _ (s1 _ _ upd_same)) (o.at (same_new ht _) (same_new ht _)) (((same_new hq0).trans s1).trans (same_new ht))
    · have sa : Same H (upd H' ea (.ext (xIs ea (.ref CT_NoChip)))) := ((same_new hq0).trans s1).trans (same_new hea)
      refine at_heap (fun B => Same H B ∧ B ea = some (.ext (xIs ea (.ref CT_NoChip)))) ⟨sa, upd_same⟩ fun B hB => ?_
      obtain ⟨sB, eB⟩ := hB
      clear sa
      refine ⟨_, rfl, ea, CT_NoChip, _, _, true, rfl, eB, xc, .inr ⟨"ValueError", rfl, rfl⟩, xv, ?_⟩
      refine ⟨_, rfl, ea, CT_NoChip, _, _, false, rfl, eB, xc, .inl ⟨c1, rfl, rfl⟩, x1, ?_⟩
      refine ⟨_, rfl, ea, CT_NoChip, _, _, true, rfl, eB, xc, .inl ⟨CT_NoChip, rfl, rfl⟩, xn, ?_⟩
      refine ⟨_, rfl, ea, CT_NoChip, _, _, false, rfl, eB, xc, .inl ⟨c2, rfl, rfl⟩, x2, ?_⟩
      refine ⟨by show 4 ≤ sizeLine; decide, fun q1 h1 => ?_⟩
      refine ⟨_, rfl, ?_⟩
      refine ⟨_, rfl, ea, CT_NoChip, _, _, false, rfl, (same_new h1 _ _ eB), xc, .inl ⟨c3, rfl, rfl⟩, x3, ?_⟩
      refine ⟨_, rfl, ea, CT_NoChip, _, _, false, rfl, (same_new h1 _ _ eB), xc, .inl ⟨c4, rfl, rfl⟩, x4, ?_⟩
      refine ⟨_, rfl, ea, CT_NoChip, _, _, false, rfl, (same_new h1 _ _ eB), xc, .inl ⟨c5, rfl, rfl⟩, x5, ?_⟩
      refine ⟨_, rfl, ea, CT_NoChip, _, _, false, rfl, (same_new h1 _ _ eB), xc, .inl ⟨c6, rfl, rfl⟩, x6, ?_⟩
      refine ⟨by show 4 ≤ sizeLine; decide, fun q2 h2 => ?_⟩
      refine ⟨q1, q2, _, _, rfl, rfl, SqL.of (same_new h2 _ _ upd_same), SqL.of upd_same, by show 8 ≤ sizeLine; decide, fun q3 h3 => ?_⟩
      refine ⟨_, rfl, ?_⟩
      refine ⟨_, rfl, ea, CT_NoChip, _, _, false, rfl, (same_new h3 _ _ (same_new h2 _ _ (same_new h1 _ _ eB))), xc, .inl ⟨c7, rfl, rfl⟩, x7, ?_⟩
      refine ⟨_, rfl, ea, CT_NoChip, _, _, false, rfl, (same_new h3 _ _ (same_new h2 _ _ (same_new h1 _ _ eB))), xc, .inl ⟨c8, rfl, rfl⟩, x8, ?_⟩
      refine ⟨_, rfl, ea, CT_NoChip, _, _, false, rfl, (same_new h3 _ _ (same_new h2 _ _ (same_new h1 _ _ eB))), xc, .inl ⟨c9, rfl, rfl⟩, x9, ?_⟩
      refine ⟨_, rfl, ea, CT_NoChip, _, _, false, rfl, (same_new h3 _ _ (same_new h2 _ _ (same_new h1 _ _ eB))), xc, .inl ⟨c10, rfl, rfl⟩, x10, ?_⟩
      refine ⟨by show 4 ≤ sizeLine; decide, fun q4 h4 => ?_⟩
      refine ⟨q3, q4, _, _, rfl, rfl, SqL.of (same_new h4 _ _ upd_same), SqL.of upd_same, by show 12 ≤ sizeLine; decide, fun q5 h5 => ?_⟩
      refine ⟨_, rfl, _, rfl, by show 2 ≤ sizeLine; decide, fun t ht => ?_⟩
      exact kb hb t q5 _ upd_same (same_new ht _ _ upd_same) ((((((sB.trans (same_new h1)).trans (same_new h2)).trans (same_new h3)).trans (same_new h4)).trans (same_new h5)).trans (same_new ht))
end
abbrev s_law_good : Stmt := top 44
theorem sc_law_good : FnScope ["kind", "many", "row"] ["kind", "many", "row"] (defScope s_law_good) := ⟨rfl, rfl, rfl, by decide +kernel, rfl, by decide +kernel, by decide +kernel⟩
section
variable {P : Program} {w : World} {K : PySem.W.Frag} {mg : Str → Option Value} {base : Heap}
theorem ok_law_good {f : Addr} {fd : FuncData} (F : Fun K "_law_good" "_law_good" s_law_good f fd) (T : Blt mg) : FnOk P w K mg base CX0 1 f fd ["kind", "many", "row"] spGood := by
  refine F.ok sc_law_good (fun vs H Q E h => ?_) (fun cdv A outer s H vs Q E hr h => ?_)
  · obtain ⟨kd, many, l, row, rfl, _⟩ := h; rfl
  · obtain ⟨kd, many, l, row, rfl, ha, el, kg, kb⟩ := h
    refine' ⟨_, (pss_cons (ps_if (pt_cmpR (op_neL0 (Nat.lt_of_succ_lt (hu_of hr)) (K := K) rfl) ?c1 (pe_lst pa_nil) (nomark _)) (pss_one (ps_ret pe_bl)) pss_nil)
      (pss_cons (ps_if (pt_cmpR op_eq (pv 0) pe_str (nomark _)) (pss_one (ps_ret (pe_and (pe_cmpR op_lt pe_int (pv 1) (nomark _)) (pe_one (pe_cmpR op_lt (pv 1) pe_int (nomark _)))))) pss_nil)
      (pss_cons (ps_if (pt_cmpR op_eq (pv 0) pe_str (nomark _)) (pss_one (ps_ret (pe_and (pe_cmpR (op_neL0 (Nat.lt_of_succ_lt (hu_of hr)) (K := K) rfl) (pv 2) (pe_lst pa_nil) (nomark _)) (pe_one (pe_cmpR op_lt (pe_callB call_len_seq (by rfl) T.len PySem.boot_len (pa_cons (pv 2) pa_nil)) pe_int (nomark _)))))) pss_nil)
      (pss_one (ps_ret (pe_or (pe_cmpR op_ne (pv 0) pe_str (nomark _)) (pe_one (pe_and (pe_cmpR op_lt pe_int (pv 1) (nomark _)) (pe_one (pe_cmpR op_lt (pv 1) pe_int (nomark _))))))))))), ?rd⟩
    (case c1 => exact (pe_comp (Nc := ["one"]) [none] rfl (compOk_of (by rfl)) (pi_list (pv 2)) (fun _ _ _ _ _ => (pg_name (i := 0) (show (["one"] : List Str).Nodup by decide +kernel) rfl (Or.inl rfl))) (fun _ _ _ _ _ => (pf_one (PW.pt (pw_or (pt_cmpR op_lt (pv 0) pe_int (nomark _)) (pw_or1 (pt_cmpR op_gt (pv 0) pe_int (nomark _))))))) (fun _ _ _ _ _ => (pv 0))))
    have yes : Good kd many row → ∀ {b : Bool} {Y : Hp}, Same H Y → b = true → Q (.bl b) Y := fun g b Y s e => by subst e; exact kg g Y s
    have no : ¬ Good kd many row → ∀ {b : Bool} {Y : Hp}, Same H Y → b = false → Q (.bl b) Y := fun g b Y s e => by subst e; exact kb g Y s
    refine ⟨_, rfl, l, rfl, ⟨_, SqL.of el⟩, ?_⟩
    refine comp_list (K := K) (a := l) (xs := row.map V.int) (fun i ys σ Y => (∃ v0 : Option V, σ = [v0]) ∧ ys.length ≤ i ∧ (ys = [] ↔ wOk (row.take i)) ∧ Y = H) (by rw [List.length_map]; have := ha.rl; exact Nat.le_trans (show row.length ≤ 4097 by omega) (by decide)) ⟨⟨none, rfl⟩, Nat.zero_le _, ⟨(fun _ x hx => by cases hx), (fun _ => rfl)⟩, rfl⟩ ?_ ?_ ?_
    · rintro i ys σ Y hi ⟨_, h1, _, rfl⟩
      exact ⟨SqL.of el, h1⟩
    · rintro i x ys σ Y hx ⟨⟨v0, rfl⟩, h1, h2, rfl⟩
      rw [List.getElem?_map] at hx
      obtain ⟨n, hn, rfl⟩ := Option.map_eq_some_iff.mp hx
      have hs := wOk_succ hn
      have bad : ¬ (0 ≤ n ∧ n ≤ 255) → (ys ++ [V.int n] = [] ↔ wOk (row.take (i + 1))) := fun hb => ⟨fun h => by simp at h, fun h => absurd (hs.mp h).2 hb⟩
      refine ⟨_, rfl, _, _, rfl, rfl, _, rfl, ?_⟩
      by_cases c1 : n < 0
      · rw [decide_eq_true c1]
        exact iteT (iteT ⟨_, rfl, ⟨_, rfl⟩, by rw [List.length_append]; show ys.length + 1 ≤ i + 1; omega, bad (by omega), rfl⟩)
      · rw [decide_eq_false c1]
        refine iteF ⟨_, rfl, _, _, rfl, rfl, _, rfl, ?_⟩
        by_cases c2 : 255 < n
        · rw [decide_eq_true c2]
          exact iteT ⟨_, rfl, ⟨_, rfl⟩, by rw [List.length_append]; show ys.length + 1 ≤ i + 1; omega, bad (by omega), rfl⟩
        · rw [decide_eq_false c2]
          exact iteF ⟨⟨_, rfl⟩, by omega, ⟨fun h => hs.mpr ⟨h2.mp h, by omega, by omega⟩, fun h => h2.mpr (hs.mp h).1⟩, rfl⟩
    rintro ys σ Y ⟨_, _, hy, rfl⟩ D hD
    rw [List.length_map, List.take_of_length_le (Nat.le_refl _)] at hy
    refine ⟨by show 0 ≤ sizeLine; decide, fun q1 h1 => ?_⟩
    refine ⟨D, q1, ys, rfl, rfl, SqL.of (same_new h1 _ _ upd_same), SqL.of upd_same, _, rfl, ?_⟩
    have s1 := (same_new (o := .lst ys) hD).trans (same_new (o := .lst []) h1)
    by_cases hw : wOk row
    · obtain rfl := hy.mpr hw
      refine iteF (next_of ?_)
      have el1 := s1 _ _ el
      refine at_heap (fun B => Same Y B ∧ B l = some (.lst (row.map V.int))) ⟨s1, el1⟩ fun B hB => ?_
      obtain ⟨sB, eB⟩ := hB
      clear s1 el1
      rcases (show kd = 0 ∨ kd = 1 ∨ kd = 2 ∨ kd = 3 ∨ kd = 4 by have := ha.kd5; omega) with rfl | rfl | rfl | rfl | rfl
      · refine ⟨_, rfl, rfl, _, rfl, iteD1 (by decide) ?_⟩
        refine ⟨_, rfl, _, _, rfl, rfl, _, rfl, ?_⟩
        by_cases c1 : 0 < many
        · rw [decide_eq_true c1]
          refine iteT ⟨_, rfl, _, _, rfl, rfl, ?_⟩
          by_cases c2 : many < 4097
          · exact yes (good_iff.mpr ⟨hw, (fun _ => by omega), (fun h => by cases h), (fun h => by cases h)⟩) sB (decide_eq_true c2)
          · exact no (fun g => by have := g.st rfl; omega) sB (decide_eq_false c2)
        · rw [decide_eq_false c1]
          exact iteF (no (fun g => by have := g.st rfl; omega) sB rfl)
      · refine ⟨_, rfl, rfl, _, rfl, iteD0 (by decide) (next_of ?_)⟩
        refine ⟨_, rfl, rfl, _, rfl, iteD1 (by decide) ?_⟩
        refine ⟨_, rfl, by show 0 ≤ sizeLine; decide, fun q2 h2 => ⟨l, q2, _, rfl, rfl, SqL.of (same_new h2 _ _ eB), SqL.of upd_same, _, rfl, ?_⟩⟩
        have s2 := sB.trans (same_new (o := .lst []) h2)
        cases row with
        | nil => exact iteF (no (fun g => by have := (g.fx rfl).1; exact absurd this (by decide)) s2 rfl)
        | cons x xs =>
          refine iteT ⟨_, rfl, l, _, rfl, .inl (SqL.of (same_new h2 _ _ eB)), _, _, rfl, rfl, ?_⟩
          by_cases c2 : (((x :: xs).map V.int).length : Int) < 4097
          · refine yes (good_iff.mpr ⟨hw, (fun h => by cases h), (fun _ => ⟨by show 1 ≤ xs.length + 1; omega, ?_⟩), (fun h => by cases h)⟩) s2 (decide_eq_true c2)
            rw [List.length_map] at c2; omega
          · refine no (fun g => ?_) s2 (decide_eq_false c2)
            have := (g.fx rfl).2
            rw [List.length_map] at c2; omega
      · refine ⟨_, rfl, rfl, _, rfl, iteD0 (by decide) (next_of ?_)⟩
        refine ⟨_, rfl, rfl, _, rfl, iteD0 (by decide) (next_of ?_)⟩
        exact ⟨_, rfl, rfl, _, rfl, iteD1 (by decide) (yes (good_iff.mpr ⟨hw, (fun h => by cases h), (fun h => by cases h), (fun h => by cases h)⟩) sB rfl)⟩
      · refine ⟨_, rfl, rfl, _, rfl, iteD0 (by decide) (next_of ?_)⟩
        refine ⟨_, rfl, rfl, _, rfl, iteD0 (by decide) (next_of ?_)⟩
        exact ⟨_, rfl, rfl, _, rfl, iteD1 (by decide) (yes (good_iff.mpr ⟨hw, (fun h => by cases h), (fun h => by cases h), (fun h => by cases h)⟩) sB rfl)⟩
      · refine ⟨_, rfl, rfl, _, rfl, iteD0 (by decide) (next_of ?_)⟩
        refine ⟨_, rfl, rfl, _, rfl, iteD0 (by decide) (next_of ?_)⟩
        refine ⟨_, rfl, rfl, _, rfl, iteD0 (by decide) ?_⟩
        refine ⟨_, rfl, _, _, rfl, rfl, _, rfl, ?_⟩
        by_cases c1 : 0 < many
        · rw [decide_eq_true c1]
          refine iteT ⟨_, rfl, _, _, rfl, rfl, ?_⟩
          by_cases c2 : many < 256
          · exact yes (good_iff.mpr ⟨hw, (fun h => by cases h), (fun h => by cases h), (fun _ => by omega)⟩) sB (decide_eq_true c2)
          · exact no (fun g => by have := g.pp rfl; omega) sB (decide_eq_false c2)
        · rw [decide_eq_false c1]
          exact iteF (no (fun g => by have := g.pp rfl; omega) sB rfl)
    · cases ys with
      | nil => exact absurd (hy.mp rfl) hw
      | cons y ys => exact iteT (no (fun g => hw g.ws) s1 rfl)
end
abbrev s_law_stands : Stmt := top 45
theorem sc_law_stands : FnScope ["chip", "kind", "many", "row", "due", "size"] ["chip", "kind", "many", "row"] (defScope s_law_stands) := ⟨rfl, rfl, rfl, by decide +kernel, rfl, by decide +kernel, by decide +kernel⟩
section
variable {P : Program} {w : World} {K : PySem.W.Frag} {mg : Str → Option Value} {base : Heap}
theorem ok_law_stands {f : Addr} {cs : Nat → Addr} {fd : FuncData} (F : Fun K "_law_stands" "_law_stands" s_law_stands f fd) (T : Blt mg) (G_law_alike : Cal P w K mg base 2 "_law_alike" ["found", "due"] (spAlike 1)) (MS : ∀ kd, kd < 5 → Mth P w K mg base 1 (cs kd) "state" [] (fun vs _ => vs) (spState (cs kd))) (ML : ∀ kd, kd < 5 → Mth P w K mg base 1 (cs kd) "__len__" [] (fun vs _ => vs) (spLen (cs kd) (lenK kd))) : FnOk P w K mg base CX0 3 f fd ["chip", "kind", "many", "row"] (spStands cs) := by
  refine F.ok sc_law_stands (fun vs H Q E h => ?_) (fun cdv A outer s H vs Q E hr h => ?_)
  · obtain ⟨kd, many, l, a, p, row, ext, rfl, _⟩ := h; rfl
  · obtain ⟨kd, many, l, a, p, row, ext, rfl, ha, hg, el, o, k⟩ := h
    refine ⟨_, (pss_cons (ps_set (i := 4) sc_law_stands.nd rfl (Or.inl rfl) (pe_callTy call_tuple_of (by rfl) T.tuple bt_tuple (pa_cons (pv 3) pa_nil)))
      (pss_cons (ps_set (i := 5) sc_law_stands.nd rfl (Or.inl rfl) (pe_callB call_len_seq (by rfl) T.len PySem.boot_len (pa_cons (pv 3) pa_nil)))
      (pss_cons (ps_if (pt_cmpR op_eq (pv 1) pe_str (nomark _)) (pss_cons (ps_set (i := 4) sc_law_stands.nd rfl (Or.inl rfl) (pe_callTy call_tuple_of (by rfl) T.tuple bt_tuple (pa_cons (pe_op op_rep (pv 3) (pv 2)) pa_nil)))
      (pss_one (ps_set (i := 5) sc_law_stands.nd rfl (Or.inl rfl) (pv 2)))) pss_nil)
      (pss_cons (ps_if (pt_cmpR op_eq (pv 1) pe_str (nomark _)) (pss_one (ps_set (i := 5) sc_law_stands.nd rfl (Or.inl rfl) pe_int)) pss_nil)
      (pss_one (ps_ret (pe_and (pe_cal G_law_alike (hr.mono (by first | decide | omega)) rfl (pa_cons (pe_mth0 1 ⟨rfl, rfl, rfl, rfl, rfl⟩ (hr.mono (by first | decide | omega)) (pv 0)) (pa_cons (pv 4) pa_nil))) (pe_one (pe_cal G_law_alike (hr.mono (by first | decide | omega)) rfl (pa_cons (pe_lenO 1 ⟨rfl, rfl, rfl, rfl, rfl⟩ (hr.mono (by first | decide | omega)) rfl T.len (pv 0)) (pa_cons (pv 5) pa_nil))))))))))), ?rd⟩
    refine ⟨_, rfl, l, _, rfl, .inl ⟨SqL.of el, fun d0 hd0 => ?_⟩⟩
    have s0 : Same H (upd H d0 (.tup (row.map V.int))) := same_new hd0
    refine ⟨_, rfl, l, _, rfl, .inl (SqL.of (s0 _ _ el)), ?_⟩
    rw [List.length_map]
    dsimp only [gName]
    refine seq_step (fun σ X => σ = [some (.ref a), some (.str (kdN kd)), some (.int many), some (.ref l), some (.ref d0), some (.int (row.length : Int))] ∧ X = upd H d0 (.tup (row.map V.int))) (fun σ X => ∃ d, ∃ z : Int, σ = [some (.ref a), some (.str (kdN kd)), some (.int many), some (.ref l), some (.ref d), some (.int z)] ∧ X d = some (.tup ((due21 kd many row).map V.int)) ∧ z = ((due21 kd many row).length : Int) ∧ Same H X) ?_ ?_ _ _ ⟨rfl, rfl⟩
    · rintro σ X ⟨rfl, rfl⟩ N hN
      by_cases e0 : kd = 0
      · subst e0
        obtain ⟨x, rfl⟩ := ha.one (.inl rfl)
        have hm := hg.st rfl
        refine ⟨_, rfl, rfl, _, rfl, iteD1 (by decide) ?_⟩
        refine ⟨_, rfl, _, rfl, l, _, _, rfl, rfl, s0 _ _ el, by omega, by omega, ?_, fun r hr => ?_⟩
        · exact Nat.le_trans (show 1 * many.toNat ≤ 4096 by omega) (by decide)
        refine ⟨r, _, rfl, .inl ⟨SqL.of upd_same, fun d hd => ?_⟩⟩
        refine ⟨_, rfl, hN _ _ ⟨d, many, rfl, ?_, ?_, (s0.trans (same_new hr)).trans (same_new hd)⟩⟩
        · rw [upd_same]
          show some (HO.tup (List.replicate many.toNat [V.int x]).flatten) = _
          rw [rep_flatI]; rfl
        · show many = ((List.replicate many.toNat x).length : Int)
          rw [List.length_replicate]; omega
      · have hd : due21 kd many row = row := by unfold due21; rw [if_neg e0]
        have hf : decide (V.str (kdN kd) = V.str "store") = false := by
          rcases (show kd = 1 ∨ kd = 2 ∨ kd = 3 ∨ kd = 4 by have := ha.kd5; omega) with rfl | rfl | rfl | rfl <;> decide
        exact ⟨_, rfl, rfl, _, rfl, iteD0 hf (next_of (hN _ _ ⟨d0, _, rfl, by rw [hd]; exact upd_same, by rw [hd], s0⟩))⟩
    rintro σ X ⟨d, z, rfl, ed, ez, sX⟩
    have dl := due_len ha hg
    refine seq_step (fun σ Y => σ = [some (.ref a), some (.str (kdN kd)), some (.int many), some (.ref l), some (.ref d), some (.int z)] ∧ Y = X) (fun σ Y => σ = [some (.ref a), some (.str (kdN kd)), some (.int many), some (.ref l), some (.ref d), some (.int (lenK kd ((due21 kd many row).map V.int) : Int))] ∧ Y = X) ?_ ?_ _ _ ⟨rfl, rfl⟩
    · rintro σ Y ⟨rfl, rfl⟩ N hN
      by_cases e4 : kd = 4
      · subst e4
        exact ⟨_, rfl, rfl, _, rfl, iteD1 (by decide) (hN _ _ ⟨rfl, rfl⟩)⟩
      · have hf : decide (V.str (kdN kd) = V.str "pipe") = false := by
          rcases (show kd = 0 ∨ kd = 1 ∨ kd = 2 ∨ kd = 3 by have := ha.kd5; omega) with rfl | rfl | rfl | rfl <;> decide
        refine ⟨_, rfl, rfl, _, rfl, iteD0 hf (next_of (hN _ _ ⟨?_, rfl⟩))⟩
        unfold lenK
        rw [if_neg e4, List.length_map, ← ez]
    rintro σ Y ⟨rfl, rfl⟩
    have oY := o.at (sX _) (sX _)
    obtain ⟨dx, hd, ea⟩ := oY.ex
    have ln : ∀ nm : Str, nm = "state" → (("head", V.str hd) :: ("held", V.ref p) :: ext : List (Str × V)).lookup nm = none := by
      rintro nm rfl
      rcases o.nn with rfl | ⟨r, rfl⟩ <;> rfl
    refine ⟨_, rfl, a, cs kd, dx, _, _, _, rfl, ea, MS kd ha.kd5, ln _ rfl, a, p, _, ext, rfl, oY, fun q hq => ?_⟩
    refine ⟨_, rfl, _, _, rfl, lk_ints upd_same (same_new hq _ _ ed) dl, fun Y2 s2 => ⟨_, rfl, iteT ?_⟩⟩
    have o2 := oY.at ((Same.trans (same_new hq) s2) _) ((Same.trans (same_new hq) s2) _)
    have ea2 := s2 _ _ (same_new hq _ _ ea)
    refine ⟨_, rfl, a, cs kd, dx, _, _, _, rfl, ea2, ML kd ha.kd5, a, p, _, ext, rfl, o2, _, rfl, by omega, ?_, ?_⟩
    · unfold lenK
      split
      · show ((2 : Nat) : Int) < 2 ^ 63; omega
      · rw [List.length_map]; omega
    refine ⟨_, rfl, _, _, rfl, .int _, fun Y3 s3 => ?_⟩
    exact k Y3 (((sX.trans (same_new hq)).trans s2).trans s3)
end
abbrev slaw : Stmt := top 46
theorem sclaw : FnScope ["script", "k", "seed", "bag", "named", "kind", "many", "row", "marks", "chip"] ["script"] (defScope slaw) := ⟨rfl, rfl, rfl, by decide +kernel, rfl, by decide +kernel, by decide +kernel⟩
section
variable {P : Program} {w : World} {K : PySem.W.Frag} {mg : Str → Option Value} {base : Heap}
theorem oklaw {f : Addr} {cs : Nat → Addr} {fd : FuncData} (F : Fun K "law" "law" slaw f fd) (T : Blt mg) (G_law_bag : Cal P w K mg base 1 "_law_bag" ["seed", "place"] spBag) (G_law_draw : Cal P w K mg base 1 "_law_draw" ["bag", "many"] spDraw) (G_law_wanted : Cal P w K mg base 5 "_law_wanted" ["bag"] spWanted)
    (G_law_asked : Cal P w K mg base 6 "_law_asked" ["kind", "many", "row", "named"] (spAsked21 cs)) (G_law_good : Cal P w K mg base 1 "_law_good" ["kind", "many", "row"] spGood) (G_law_only : Cal P w K mg base 1 "_law_only" ["due"] spOnly) (G_law_stands : Cal P w K mg base 3 "_law_stands" ["chip", "kind", "many", "row"] (spStands cs)) : FnOk P w K mg base CX0 7 f fd ["script"] (spLaw K) := by
  refine F.ok sclaw (fun vs H Q E h => ?_) (fun cdv A outer s H vs Q E hr h => ?_)
  · obtain ⟨a, ns, rfl, _⟩ := h; rfl
  · obtain ⟨a, ns, rfl, hS, hlen, hbits, k⟩ := h
    refine ⟨_, (pss_cons (ps_for PassesOwn.never rfl (pi_enum rfl T.enumerate (pa_cons (pe_op op_catS (pe_lst (pa_cons (pe_callB call_len_seq (by rfl) T.len PySem.boot_len (pa_cons (pv 0) pa_nil)) pa_nil)) (pe_slice sl_list (pv 0) po_none (po_some pe_int))) pa_nil)) (pg_tup rfl (pgs_cons (pg_name (i := 1) sclaw.nd rfl (Or.inl rfl)) (pgs_cons (pg_name (i := 2) sclaw.nd rfl (Or.inl rfl)) pgs_nil)))
      (pss_cons (ps_set (i := 3) sclaw.nd rfl (Or.inl rfl) (pe_cal G_law_bag (hr.mono (by first | decide | omega)) rfl (pa_cons (pv 2) (pa_cons (pv 1) pa_nil))))
      (pss_cons (ps_set (i := 4) sclaw.nd rfl (Or.inl rfl) (pe_cmpR op_eq (pe_cal G_law_draw (hr.mono (by first | decide | omega)) rfl (pa_cons (pv 3) (pa_cons pe_int pa_nil))) pe_int (nomark _)))
      (pss_cons (ps_asg (pe_cal G_law_wanted (hr.mono (by first | decide | omega)) rfl (pa_cons (pv 3) pa_nil)) (pg_tup rfl (pgs_cons (pg_name (i := 5) sclaw.nd rfl (Or.inl rfl)) (pgs_cons (pg_name (i := 6) sclaw.nd rfl (Or.inl rfl)) (pgs_cons (pg_name (i := 7) sclaw.nd rfl (Or.inl rfl)) pgs_nil)))))
      (pss_cons (ps_asg (pe_cal G_law_asked (hr.mono (by first | decide | omega)) rfl (pa_cons (pv 5) (pa_cons (pv 6) (pa_cons (pv 7) (pa_cons (pv 4) pa_nil))))) (pg_tup rfl (pgs_cons (pg_name (i := 8) sclaw.nd rfl (Or.inl rfl)) (pgs_cons (pg_name (i := 9) sclaw.nd rfl (Or.inl rfl)) pgs_nil))))
      (pss_one (ps_if (pt_not (pt_val (pe_cal G_law_good (hr.mono (by first | decide | omega)) rfl (pa_cons (pv 5) (pa_cons (pv 6) (pa_cons (pv 7) pa_nil)))))) (pss_one (ps_if (pt_cmpR (op_neLB (Nat.lt_of_succ_lt (hu_of hr)) (K := K) rfl) (pv 8) (pe_cal G_law_only (hr.mono (by first | decide | omega)) rfl (pa_cons pe_str pa_nil)) (nomark _)) (pss_one (ps_ret pe_bl)) pss_nil)) (pss_one (ps_if (PW.pt (pw_or (pt_cmpR (op_neL0 (Nat.lt_of_succ_lt (hu_of hr)) (K := K) rfl) (pv 8) (pe_lst pa_nil) (nomark _)) (pw_or1 (pt_not (pt_val (pe_cal G_law_stands (hr.mono (by first | decide | omega)) rfl (pa_cons (pv 9) (pa_cons (pv 5) (pa_cons (pv 6) (pa_cons (pv 7) pa_nil)))))))))) (pss_one (ps_ret pe_bl)) pss_nil)))))))))
      (pss_one (ps_ret pe_bl))), ?rd⟩
    refine ⟨_, rfl, a, _, rfl, .inl hS, by show 1 ≤ sizeLine; decide, fun q1 h1 => ?_⟩
    have s1 : Same H (upd H q1 (.lst [V.int ((ns.map V.int).length : Int)])) := same_new h1
    refine ⟨_, rfl, _, rfl, a, _, rfl, s1.seq hS, fun q2 h2 => ?_⟩
    have s2 := s1.trans (same_new (o := .lst (cutV (ns.map V.int) none (some 40))) h2)
    have cl := cutV_length (ns.map V.int) none (some 40)
    rw [List.length_map] at cl
    refine ⟨q1, q2, _, _, rfl, rfl, SqL.of (same_new h2 _ _ upd_same), SqL.of upd_same, ?_, fun q3 h3 => ?_⟩
    · exact Nat.le_trans (show 1 + (cutV (ns.map V.int) none (some 40)).length ≤ 100 by omega) (by decide)
    have s3 := s2.trans (same_new (o := .lst ([V.int ((ns.map V.int).length : Int)] ++ cutV (ns.map V.int) none (some 40))) h3)
    obtain ⟨xs, ex⟩ : ∃ xs, [V.int ((ns.map V.int).length : Int)] ++ cutV (ns.map V.int) none (some 40) = xs := ⟨_, rfl⟩
    have xl : xs.length ≤ 64 := by rw [← ex, List.length_append]; show 1 + _ ≤ 64; omega
    have xi : ∀ x ∈ xs, ∃ sd : Int, x = .int sd ∧ Builtin.Int.intBits sd ≤ 2 ^ 20 := by
      intro x hx
      rw [← ex] at hx
      rcases List.mem_append.mp hx with h | h
      · rw [List.mem_singleton.mp h, List.length_map]
        exact ⟨_, rfl, bits63 ⟨ns.length, by omega⟩⟩
      · obtain ⟨m, hm, rfl⟩ := List.mem_map.mp (cut_memR h)
        exact ⟨m, rfl, hbits m hm⟩
    rw [ex] at s3 ⊢
    refine ⟨q3, rfl, ⟨_, SqL.of upd_same⟩, ?_⟩
    clear s1 s2 s3 ex
    have eB : (upd (upd (upd H q1 (.lst [V.int ((ns.map V.int).length : Int)])) q2 (.lst (cutV (ns.map V.int) none (some 40)))) q3 (.lst xs)) q3 = some (.lst xs) := upd_same
    generalize upd (upd (upd H q1 (.lst [V.int ((ns.map V.int).length : Int)])) q2 (.lst (cutV (ns.map V.int) none (some 40)))) q3 (.lst xs) = B at eB ⊢
    clear h1 h2 h3
    refine for_enum (K := K) (a := q3) (xs := xs) (fun i σ Y => (∃ v1 v2 v3 v4 v5 v6 v7 v8 v9 : Option V, σ = [some (.ref a), v1, v2, v3, v4, v5, v6, v7, v8, v9]) ∧ Same B Y) ⟨⟨_, _, _, _, _, _, _, _, _, rfl⟩, Same.refl _⟩ (fun i σ Y hi ⟨_, sY⟩ => SqL.of (sY _ _ eB)) ?_ ?_
    · rintro i x T0 σ Y hx hT ⟨⟨v1, v2, v3, v4, v5, v6, v7, v8, v9, rfl⟩, sY⟩
      obtain ⟨sd, rfl, hsd⟩ := xi x (List.mem_of_getElem? hx)
      have hi : i < xs.length := (List.getElem?_eq_some_iff.mp hx).1
      refine g_pair ?_
      have sT : Same B (upd Y T0 (.tup [.int (i : Int), .int sd])) := sY.trans (same_new hT)
      refine at_heap (fun C => Same B C) sT fun C sC => ?_
      clear sT hT sY
      refine ⟨_, rfl, _, rfl, sd, i, rfl, hsd, by omega, fun p X1 hp hB1 t1 => ?_⟩
      refine ⟨_, rfl, p, _, _, rfl, hB1, by omega, by decide, by decide, fun r X2 hr hB2 k2 => ⟨rfl, ?_⟩⟩
      have np : ∀ {b : Addr} {o : HO}, B b = some o → b ≠ p := fun {b o} e => ne_of_none (sC _ _ e) hp
      have sX2 : Same B X2 := fun b o e => by rw [k2 b (np e)]; exact t1 _ _ (sC _ _ e)
      refine ⟨_, rfl, p, _, rfl, hB2, by omega, fun t l kd many row X3 ha nlp et el hB3 k3 => ?_⟩
      have sX3 : Same B X3 := fun b o e => k3 b o (np e) (sX2 _ _ e)
      refine ⟨t, _, rfl, SqT.of et, rfl, _, _, rfl, _, _, rfl, _, _, rfl, rfl, ?_⟩
      refine ⟨_, rfl, _, rfl, _, rfl, _, rfl, kd, many, l, row, _, rfl, ha, el, fun hg t2 mk c pp ext X4 et2 em o s4 => ?_, fun hb t2 mk X4 et2 em s4 => ?_⟩
      · refine ⟨t2, _, rfl, SqT.of et2, rfl, _, _, rfl, _, _, rfl, rfl, ?_⟩
        refine ⟨_, rfl, _, rfl, _, rfl, kd, many, l, row, rfl, ha, s4 _ _ el, fun _ X5 s5 => ⟨_, rfl, iteF ?_⟩, fun nb => absurd hg nb⟩
        refine ⟨_, rfl, by show 0 ≤ sizeLine; decide, fun q hq => ⟨mk, q, _, rfl, rfl, SqL.of (same_new hq _ _ (s5 _ _ em)), SqL.of upd_same, _, rfl, iteF ?_⟩⟩
        have s6 := s5.trans (same_new (o := .lst []) hq)
        refine ⟨_, rfl, _, rfl, _, rfl, _, rfl, kd, many, l, c, pp, row, ext, rfl, ha, hg, s6 _ _ (s4 _ _ el), o.at (s6 _) (s6 _), fun X7 s7 => ⟨_, rfl, iteF (next_of ⟨⟨_, _, _, _, _, _, _, _, _, rfl⟩, ?_⟩)⟩⟩
        exact sX3.trans (s4.trans (s6.trans s7))
      · refine ⟨t2, _, rfl, SqT.of et2, rfl, _, _, rfl, _, _, rfl, rfl, ?_⟩
        refine ⟨_, rfl, _, rfl, _, rfl, kd, many, l, row, rfl, ha, s4 _ _ el, fun g => absurd g hb, fun _ X5 s5 => ⟨_, rfl, iteT ?_⟩⟩
        refine ⟨_, rfl, "NoChip", rfl, fun lo X6 elo s6 => ⟨mk, lo, mkNC, rfl, rfl, SqL.of (s6 _ _ (s5 _ _ em)), SqL.of (by rw [← only_nc]; exact elo), _, rfl, iteF (next_of ⟨⟨_, _, _, _, _, _, _, _, _, rfl⟩, ?_⟩)⟩⟩
        exact sX3.trans (s4.trans (s5.trans s6))
    · rintro σ Y ⟨_, sY⟩
      exact k Y
end
theorem all_mk {l : PySem.W.OpenLaw} {w : World} {K : PySem.W.Frag} {h : Heap} {mg : Str → Option Value} {fa : Addr} (X : K.In h) (G : h.Ns mainGlobals mg) (hfa : mg "law" = some (.ref fa))
    {nmT qT : Str} {NT : Addr} {bsT : List Value} {hdT : Bool} {snT : List Str} {subT : List Value} {abT : Bool} {colT : Option Bool} {ddT : Option Addr} {k0T k1T k2T k3T k5T : Option Value} {cN1 : Value} {dN1 : Option Addr} {es1 : Array DictEntry} {ep1 : Nat} {sl1 : Array (Option Value)} {cB : Value} {ddB : Option Addr} {cdB : ClassData} {slB : Array (Option Value)} {cN2 : Value} {dN2 : Option Addr} {es2 : Array DictEntry} {ep2 : Nat} {sl2 : Array (Option Value)}
    {C_NoChip : Addr}
    {C_BusError : Addr}
    {C_TooMany : Addr}
    {C_NoCell : Addr}
    {C_NoMap : Addr}
    {C_NoWatch : Addr}
    {C_NoMover : Addr}
    {C_NoText : Addr}
    {C_NoWord : Addr}
    {C_NoAddress : Addr}
    {C_Clash : Addr}
    {C_BadRow : Addr}
    {f_is_number : Addr} {oc_is_number : Value} {kV_is_number : Value} {dc_is_number : Value} {pm_is_number : Value} {cd_is_number : Value} {ct_is_number : Value} {od_is_number : Option Addr} {an_is_number : Option Addr} {sl_is_number : Array (Option Value)}
    {f_is_word : Addr} {oc_is_word : Value} {kV_is_word : Value} {dc_is_word : Value} {pm_is_word : Value} {cd_is_word : Value} {ct_is_word : Value} {od_is_word : Option Addr} {an_is_word : Option Addr} {sl_is_word : Array (Option Value)}
    {C_Chip : Addr}
    {f_cm_Chip___init__ : Addr} {oc_cm_Chip___init__ : Value} {kV_cm_Chip___init__ : Value} {dc_cm_Chip___init__ : Value} {pm_cm_Chip___init__ : Value} {cd_cm_Chip___init__ : Value} {ct_cm_Chip___init__ : Value} {od_cm_Chip___init__ : Option Addr} {an_cm_Chip___init__ : Option Addr} {sl_cm_Chip___init__ : Array (Option Value)}
    {f_by_figures : Addr} {oc_by_figures : Value} {kV_by_figures : Value} {dc_by_figures : Value} {pm_by_figures : Value} {cd_by_figures : Value} {ct_by_figures : Value} {od_by_figures : Option Addr} {an_by_figures : Option Addr} {sl_by_figures : Array (Option Value)}
    {f_two_figures : Addr} {oc_two_figures : Value} {kV_two_figures : Value} {dc_two_figures : Value} {pm_two_figures : Value} {cd_two_figures : Value} {ct_two_figures : Value} {od_two_figures : Option Addr} {an_two_figures : Option Addr} {sl_two_figures : Array (Option Value)}
    {C_Store : Addr}
    {f_m_Store___len__ : Addr} {oc_m_Store___len__ : Value} {kV_m_Store___len__ : Value} {dc_m_Store___len__ : Value} {pm_m_Store___len__ : Value} {cd_m_Store___len__ : Value} {ct_m_Store___len__ : Value} {od_m_Store___len__ : Option Addr} {an_m_Store___len__ : Option Addr} {sl_m_Store___len__ : Array (Option Value)}
    {f_m_Store_state : Addr} {oc_m_Store_state : Value} {kV_m_Store_state : Value} {dc_m_Store_state : Value} {pm_m_Store_state : Value} {cd_m_Store_state : Value} {ct_m_Store_state : Value} {od_m_Store_state : Option Addr} {an_m_Store_state : Option Addr} {sl_m_Store_state : Array (Option Value)}
    {C_Fixed : Addr}
    {f_m_Fixed___len__ : Addr} {oc_m_Fixed___len__ : Value} {kV_m_Fixed___len__ : Value} {dc_m_Fixed___len__ : Value} {pm_m_Fixed___len__ : Value} {cd_m_Fixed___len__ : Value} {ct_m_Fixed___len__ : Value} {od_m_Fixed___len__ : Option Addr} {an_m_Fixed___len__ : Option Addr} {sl_m_Fixed___len__ : Array (Option Value)}
    {f_m_Fixed_state : Addr} {oc_m_Fixed_state : Value} {kV_m_Fixed_state : Value} {dc_m_Fixed_state : Value} {pm_m_Fixed_state : Value} {cd_m_Fixed_state : Value} {ct_m_Fixed_state : Value} {od_m_Fixed_state : Option Addr} {an_m_Fixed_state : Option Addr} {sl_m_Fixed_state : Array (Option Value)}
    {C_Latch : Addr}
    {f_m_Latch___len__ : Addr} {oc_m_Latch___len__ : Value} {kV_m_Latch___len__ : Value} {dc_m_Latch___len__ : Value} {pm_m_Latch___len__ : Value} {cd_m_Latch___len__ : Value} {ct_m_Latch___len__ : Value} {od_m_Latch___len__ : Option Addr} {an_m_Latch___len__ : Option Addr} {sl_m_Latch___len__ : Array (Option Value)}
    {f_m_Latch_state : Addr} {oc_m_Latch_state : Value} {kV_m_Latch_state : Value} {dc_m_Latch_state : Value} {pm_m_Latch_state : Value} {cd_m_Latch_state : Value} {ct_m_Latch_state : Value} {od_m_Latch_state : Option Addr} {an_m_Latch_state : Option Addr} {sl_m_Latch_state : Array (Option Value)}
    {C_Meter : Addr}
    {f_m_Meter___len__ : Addr} {oc_m_Meter___len__ : Value} {kV_m_Meter___len__ : Value} {dc_m_Meter___len__ : Value} {pm_m_Meter___len__ : Value} {cd_m_Meter___len__ : Value} {ct_m_Meter___len__ : Value} {od_m_Meter___len__ : Option Addr} {an_m_Meter___len__ : Option Addr} {sl_m_Meter___len__ : Array (Option Value)}
    {f_m_Meter_state : Addr} {oc_m_Meter_state : Value} {kV_m_Meter_state : Value} {dc_m_Meter_state : Value} {pm_m_Meter_state : Value} {cd_m_Meter_state : Value} {ct_m_Meter_state : Value} {od_m_Meter_state : Option Addr} {an_m_Meter_state : Option Addr} {sl_m_Meter_state : Array (Option Value)}
    {C_Pipe : Addr}
    {f_m_Pipe___len__ : Addr} {oc_m_Pipe___len__ : Value} {kV_m_Pipe___len__ : Value} {dc_m_Pipe___len__ : Value} {pm_m_Pipe___len__ : Value} {cd_m_Pipe___len__ : Value} {ct_m_Pipe___len__ : Value} {od_m_Pipe___len__ : Option Addr} {an_m_Pipe___len__ : Option Addr} {sl_m_Pipe___len__ : Array (Option Value)}
    {f_m_Pipe_state : Addr} {oc_m_Pipe_state : Value} {kV_m_Pipe_state : Value} {dc_m_Pipe_state : Value} {pm_m_Pipe_state : Value} {cd_m_Pipe_state : Value} {ct_m_Pipe_state : Value} {od_m_Pipe_state : Option Addr} {an_m_Pipe_state : Option Addr} {sl_m_Pipe_state : Array (Option Value)}
    {f_i_Store : Addr} {oc_i_Store : Value} {kV_i_Store : Value} {dc_i_Store : Value} {pm_i_Store : Value} {cd_i_Store : Value} {ct_i_Store : Value} {od_i_Store : Option Addr} {an_i_Store : Option Addr} {sl_i_Store : Array (Option Value)}
    {T_i_Store : Addr} {tc_i_Store : Value} {td_i_Store : Option Addr} {tn_i_Store : Nat} {ts_i_Store : Array (Option Value)} {tt_i_Store : Tok}
    {f_i_Fixed : Addr} {oc_i_Fixed : Value} {kV_i_Fixed : Value} {dc_i_Fixed : Value} {pm_i_Fixed : Value} {cd_i_Fixed : Value} {ct_i_Fixed : Value} {od_i_Fixed : Option Addr} {an_i_Fixed : Option Addr} {sl_i_Fixed : Array (Option Value)}
    {f_i_Pipe : Addr} {oc_i_Pipe : Value} {kV_i_Pipe : Value} {dc_i_Pipe : Value} {pm_i_Pipe : Value} {cd_i_Pipe : Value} {ct_i_Pipe : Value} {od_i_Pipe : Option Addr} {an_i_Pipe : Option Addr} {sl_i_Pipe : Array (Option Value)}
    {T_i_Pipe : Addr} {tc_i_Pipe : Value} {td_i_Pipe : Option Addr} {tn_i_Pipe : Nat} {ts_i_Pipe : Array (Option Value)} {tt_i_Pipe : Tok}
    {f_i_Latch : Addr} {oc_i_Latch : Value} {kV_i_Latch : Value} {dc_i_Latch : Value} {pm_i_Latch : Value} {cd_i_Latch : Value} {ct_i_Latch : Value} {od_i_Latch : Option Addr} {an_i_Latch : Option Addr} {sl_i_Latch : Array (Option Value)}
    {T_i_Latch : Addr} {tc_i_Latch : Value} {td_i_Latch : Option Addr} {tn_i_Latch : Nat} {ts_i_Latch : Array (Option Value)} {tt_i_Latch : Tok}
    {f_i_Meter : Addr} {oc_i_Meter : Value} {kV_i_Meter : Value} {dc_i_Meter : Value} {pm_i_Meter : Value} {cd_i_Meter : Value} {ct_i_Meter : Value} {od_i_Meter : Option Addr} {an_i_Meter : Option Addr} {sl_i_Meter : Array (Option Value)}
    {T_i_Meter : Addr} {tc_i_Meter : Value} {td_i_Meter : Option Addr} {tn_i_Meter : Nat} {ts_i_Meter : Array (Option Value)} {tt_i_Meter : Tok}
    {f__law_bag : Addr} {oc__law_bag : Value} {kV__law_bag : Value} {dc__law_bag : Value} {pm__law_bag : Value} {cd__law_bag : Value} {ct__law_bag : Value} {od__law_bag : Option Addr} {an__law_bag : Option Addr} {sl__law_bag : Array (Option Value)}
    {f__law_draw : Addr} {oc__law_draw : Value} {kV__law_draw : Value} {dc__law_draw : Value} {pm__law_draw : Value} {cd__law_draw : Value} {ct__law_draw : Value} {od__law_draw : Option Addr} {an__law_draw : Option Addr} {sl__law_draw : Array (Option Value)}
    {f__law_alike : Addr} {oc__law_alike : Value} {kV__law_alike : Value} {dc__law_alike : Value} {pm__law_alike : Value} {cd__law_alike : Value} {ct__law_alike : Value} {od__law_alike : Option Addr} {an__law_alike : Option Addr} {sl__law_alike : Array (Option Value)}
    {f__law_big : Addr} {oc__law_big : Value} {kV__law_big : Value} {dc__law_big : Value} {pm__law_big : Value} {cd__law_big : Value} {ct__law_big : Value} {od__law_big : Option Addr} {an__law_big : Option Addr} {sl__law_big : Array (Option Value)}
    {f__law_near : Addr} {oc__law_near : Value} {kV__law_near : Value} {dc__law_near : Value} {pm__law_near : Value} {cd__law_near : Value} {ct__law_near : Value} {od__law_near : Option Addr} {an__law_near : Option Addr} {sl__law_near : Array (Option Value)}
    {f__law_words : Addr} {oc__law_words : Value} {kV__law_words : Value} {dc__law_words : Value} {pm__law_words : Value} {cd__law_words : Value} {ct__law_words : Value} {od__law_words : Option Addr} {an__law_words : Option Addr} {sl__law_words : Array (Option Value)}
    {f__law_wanted : Addr} {oc__law_wanted : Value} {kV__law_wanted : Value} {dc__law_wanted : Value} {pm__law_wanted : Value} {cd__law_wanted : Value} {ct__law_wanted : Value} {od__law_wanted : Option Addr} {an__law_wanted : Option Addr} {sl__law_wanted : Array (Option Value)}
    {f__law_only : Addr} {oc__law_only : Value} {kV__law_only : Value} {dc__law_only : Value} {pm__law_only : Value} {cd__law_only : Value} {ct__law_only : Value} {od__law_only : Option Addr} {an__law_only : Option Addr} {sl__law_only : Array (Option Value)}
    {f__law_made : Addr} {oc__law_made : Value} {kV__law_made : Value} {dc__law_made : Value} {pm__law_made : Value} {cd__law_made : Value} {ct__law_made : Value} {od__law_made : Option Addr} {an__law_made : Option Addr} {sl__law_made : Array (Option Value)}
    {f__law_asked : Addr} {oc__law_asked : Value} {kV__law_asked : Value} {dc__law_asked : Value} {pm__law_asked : Value} {cd__law_asked : Value} {ct__law_asked : Value} {od__law_asked : Option Addr} {an__law_asked : Option Addr} {sl__law_asked : Array (Option Value)}
    {f__law_good : Addr} {oc__law_good : Value} {kV__law_good : Value} {dc__law_good : Value} {pm__law_good : Value} {cd__law_good : Value} {ct__law_good : Value} {od__law_good : Option Addr} {an__law_good : Option Addr} {sl__law_good : Array (Option Value)}
    {f__law_stands : Addr} {oc__law_stands : Value} {kV__law_stands : Value} {dc__law_stands : Value} {pm__law_stands : Value} {cd__law_stands : Value} {ct__law_stands : Value} {od__law_stands : Option Addr} {an__law_stands : Option Addr} {sl__law_stands : Array (Option Value)}
    {f_law : Addr} {oc_law : Value} {kV_law : Value} {dc_law : Value} {pm_law : Value} {cd_law : Value} {ct_law : Value} {od_law : Option Addr} {an_law : Option Addr} {sl_law : Array (Option Value)}
    {tk_LAST_WORD : Tok}
    {tk_MOST_CELLS : Tok}
    {tk_MOST_ROOM : Tok}
    {tk_SIXTEEN : Tok}
    (a_NoChip : PySem.W.nsIn K mainGlobals "NoChip" = some (some (.ref C_NoChip)))
    (a_BusError : PySem.W.nsIn K mainGlobals "BusError" = some (some (.ref C_BusError)))
    (a_TooMany : PySem.W.nsIn K mainGlobals "TooMany" = some (some (.ref C_TooMany)))
    (a_NoCell : PySem.W.nsIn K mainGlobals "NoCell" = some (some (.ref C_NoCell)))
    (a_NoMap : PySem.W.nsIn K mainGlobals "NoMap" = some (some (.ref C_NoMap)))
    (a_NoWatch : PySem.W.nsIn K mainGlobals "NoWatch" = some (some (.ref C_NoWatch)))
    (a_NoMover : PySem.W.nsIn K mainGlobals "NoMover" = some (some (.ref C_NoMover)))
    (a_NoText : PySem.W.nsIn K mainGlobals "NoText" = some (some (.ref C_NoText)))
    (a_NoWord : PySem.W.nsIn K mainGlobals "NoWord" = some (some (.ref C_NoWord)))
    (a_NoAddress : PySem.W.nsIn K mainGlobals "NoAddress" = some (some (.ref C_NoAddress)))
    (a_Clash : PySem.W.nsIn K mainGlobals "Clash" = some (some (.ref C_Clash)))
    (a_BadRow : PySem.W.nsIn K mainGlobals "BadRow" = some (some (.ref C_BadRow)))
    (zV : PySem.W.nsIn K mainGlobals "ValueError" = some none)
    (xl : K.lookup C_NoChip = some (excClassObj nmT qT C_NoChip NT bsT [.ref C_BusError, .type "ValueError", .type "Exception", .type "BaseException", .type "object"] hdT snT subT abT colT ddT k0T k1T k2T k3T k5T "ValueError.__new__"))
    (xn : K.lookup NT = some ⟨cN1, dN1, .dict es1 ep1, sl1⟩)
    (xs : es1.toList.all (fun e => match e.key with | .str _ _ => true | _ => false) = true)
    (xi : nsFind es1 "__init__" = none)
    (yl : K.lookup C_BusError = some ⟨cB, ddB, .cls cdB, slB⟩)
    (yn : K.lookup cdB.ns = some ⟨cN2, dN2, .dict es2 ep2, sl2⟩)
    (ys : es2.toList.all (fun e => match e.key with | .str _ _ => true | _ => false) = true)
    (yi : nsFind es2 "__init__" = none)
    (c1_ : PySem.W.findIn K (.ref C_NoChip) "__getattribute__" = some (some (.builtin "BaseException.__getattribute__")))
    (c2_ : PySem.W.findIn K (.ref C_NoChip) "__getattr__" = some none)
    (c3_ : PySem.W.findObj K C_NoChip none "__class__" = some (.bind (.builtin "getset_descriptor.__get__") (.builtin "object.__class__")))
    (c4_ : PySem.W.subIn K (.ref C_NoChip) (.type "BaseException") = some true)
    (c5_ : PySem.W.mroIn K C_NoChip (.type "object") = some true)
    (m1_ : PySem.W.exmOne K (.ref C_NoChip) (.ref C_BusError) = some true)
    (m2_ : PySem.W.kitOne K (.ref C_NoChip) (.ref C_NoChip) = some true)
    (m3_ : PySem.W.kitOne K (.ref C_NoChip) (.type "ValueError") = some true)
    (j1_ : PySem.W.kitOne K (.ref C_NoChip) (.ref C_TooMany) = some false)
    (j2_ : PySem.W.kitOne K (.ref C_NoChip) (.ref C_NoCell) = some false)
    (j3_ : PySem.W.kitOne K (.ref C_NoChip) (.ref C_NoMap) = some false)
    (j4_ : PySem.W.kitOne K (.ref C_NoChip) (.ref C_NoWatch) = some false)
    (j5_ : PySem.W.kitOne K (.ref C_NoChip) (.ref C_NoMover) = some false)
    (j6_ : PySem.W.kitOne K (.ref C_NoChip) (.ref C_NoText) = some false)
    (j7_ : PySem.W.kitOne K (.ref C_NoChip) (.ref C_NoWord) = some false)
    (j8_ : PySem.W.kitOne K (.ref C_NoChip) (.ref C_NoAddress) = some false)
    (j9_ : PySem.W.kitOne K (.ref C_NoChip) (.ref C_Clash) = some false)
    (j10_ : PySem.W.kitOne K (.ref C_NoChip) (.ref C_BadRow) = some false)
    (a0_is_number : PySem.W.nsIn K mainGlobals "is_number" = some (some (.ref f_is_number)))
    (l_is_number : K.lookup f_is_number = some ⟨oc_is_number, od_is_number, .func (PySem.W.fnOf "is_number" "is_number" (defArgs sis_number) (defBody sis_number) (defScope sis_number) .none kV_is_number dc_is_number pm_is_number an_is_number cd_is_number ct_is_number), sl_is_number⟩)
    (c_is_number : PySem.W.codeIn K cd_is_number "is_number" = true)
    (k_is_number : PySem.W.keepIn K (.ref f_is_number) = true)
    (a0_is_word : PySem.W.nsIn K mainGlobals "is_word" = some (some (.ref f_is_word)))
    (l_is_word : K.lookup f_is_word = some ⟨oc_is_word, od_is_word, .func (PySem.W.fnOf "is_word" "is_word" (defArgs sis_word) (defBody sis_word) (defScope sis_word) .none kV_is_word dc_is_word pm_is_word an_is_word cd_is_word ct_is_word), sl_is_word⟩)
    (c_is_word : PySem.W.codeIn K cd_is_word "is_word" = true)
    (k_is_word : PySem.W.keepIn K (.ref f_is_word) = true)
    (a_Chip : PySem.W.nsIn K mainGlobals "Chip" = some (some (.ref C_Chip)))
    (sg_cm_Chip___init__ : PySem.W.specialIn K (.ref C_Chip) "__getattribute__" = some (some (.builtin "type.__getattribute__")))
    (rd_cm_Chip___init__ : PySem.W.readsIn K C_Chip (.type "type") = true)
    (fc_cm_Chip___init__ : PySem.W.findCls K (.ref C_Chip) (.type "type") "__init__" = some (.val (.ref f_cm_Chip___init__)))
    (l_cm_Chip___init__ : K.lookup f_cm_Chip___init__ = some ⟨oc_cm_Chip___init__, od_cm_Chip___init__, .func (PySem.W.fnOf "__init__" "Chip.__init__" (defArgs sChip___init__) (defBody sChip___init__) (defScope sChip___init__) .none kV_cm_Chip___init__ dc_cm_Chip___init__ pm_cm_Chip___init__ an_cm_Chip___init__ cd_cm_Chip___init__ ct_cm_Chip___init__), sl_cm_Chip___init__⟩)
    (c_cm_Chip___init__ : PySem.W.codeIn K cd_cm_Chip___init__ "Chip.__init__" = true)
    (k_cm_Chip___init__ : PySem.W.keepIn K (.ref f_cm_Chip___init__) = true)
    (a0_by_figures : PySem.W.nsIn K mainGlobals "by_figures" = some (some (.ref f_by_figures)))
    (l_by_figures : K.lookup f_by_figures = some ⟨oc_by_figures, od_by_figures, .func (PySem.W.fnOf "by_figures" "by_figures" (defArgs sby_figures) (defBody sby_figures) (defScope sby_figures) .none kV_by_figures dc_by_figures pm_by_figures an_by_figures cd_by_figures ct_by_figures), sl_by_figures⟩)
    (c_by_figures : PySem.W.codeIn K cd_by_figures "by_figures" = true)
    (k_by_figures : PySem.W.keepIn K (.ref f_by_figures) = true)
    (a0_two_figures : PySem.W.nsIn K mainGlobals "two_figures" = some (some (.ref f_two_figures)))
    (l_two_figures : K.lookup f_two_figures = some ⟨oc_two_figures, od_two_figures, .func (PySem.W.fnOf "two_figures" "two_figures" (defArgs stwo_figures) (defBody stwo_figures) (defScope stwo_figures) .none kV_two_figures dc_two_figures pm_two_figures an_two_figures cd_two_figures ct_two_figures), sl_two_figures⟩)
    (c_two_figures : PySem.W.codeIn K cd_two_figures "two_figures" = true)
    (k_two_figures : PySem.W.keepIn K (.ref f_two_figures) = true)
    (a_Store : PySem.W.nsIn K mainGlobals "Store" = some (some (.ref C_Store)))
    (pg_Store : PySem.W.plainGet K C_Store Str.empty = true)
    (hd_Store : PySem.W.hasDictIn K C_Store = true)
    (po_Store : PySem.W.plainOver K C_Store = true)
    (sa_Store : PySem.W.findIn K (.ref C_Store) "__setattr__" = some (some (.builtin "object.__setattr__")))
    (nhead_Store : PySem.W.findIn K (.ref C_Store) "head" = some none)
    (nheld_Store : PySem.W.findIn K (.ref C_Store) "held" = some none)
    (nroom_Store : PySem.W.findIn K (.ref C_Store) "room" = some none)
    (at_m_Store___len__ : PySem.W.findIn K (.ref C_Store) "__len__" = some (some (.ref f_m_Store___len__)))
    (fn_m_Store___len__ : PySem.W.isFn K (.ref f_m_Store___len__) = true)
    (l_m_Store___len__ : K.lookup f_m_Store___len__ = some ⟨oc_m_Store___len__, od_m_Store___len__, .func (PySem.W.fnOf "__len__" "Chip.__len__" (defArgs sChip___len__) (defBody sChip___len__) (defScope sChip___len__) .none kV_m_Store___len__ dc_m_Store___len__ pm_m_Store___len__ an_m_Store___len__ cd_m_Store___len__ ct_m_Store___len__), sl_m_Store___len__⟩)
    (c_m_Store___len__ : PySem.W.codeIn K cd_m_Store___len__ "Chip.__len__" = true)
    (k_m_Store___len__ : PySem.W.keepIn K (.ref f_m_Store___len__) = true)
    (at_m_Store_state : PySem.W.findIn K (.ref C_Store) "state" = some (some (.ref f_m_Store_state)))
    (fn_m_Store_state : PySem.W.isFn K (.ref f_m_Store_state) = true)
    (l_m_Store_state : K.lookup f_m_Store_state = some ⟨oc_m_Store_state, od_m_Store_state, .func (PySem.W.fnOf "state" "Chip.state" (defArgs sChip_state) (defBody sChip_state) (defScope sChip_state) .none kV_m_Store_state dc_m_Store_state pm_m_Store_state an_m_Store_state cd_m_Store_state ct_m_Store_state), sl_m_Store_state⟩)
    (c_m_Store_state : PySem.W.codeIn K cd_m_Store_state "Chip.state" = true)
    (k_m_Store_state : PySem.W.keepIn K (.ref f_m_Store_state) = true)
    (a_Fixed : PySem.W.nsIn K mainGlobals "Fixed" = some (some (.ref C_Fixed)))
    (pg_Fixed : PySem.W.plainGet K C_Fixed Str.empty = true)
    (hd_Fixed : PySem.W.hasDictIn K C_Fixed = true)
    (po_Fixed : PySem.W.plainOver K C_Fixed = true)
    (sa_Fixed : PySem.W.findIn K (.ref C_Fixed) "__setattr__" = some (some (.builtin "object.__setattr__")))
    (nhead_Fixed : PySem.W.findIn K (.ref C_Fixed) "head" = some none)
    (nheld_Fixed : PySem.W.findIn K (.ref C_Fixed) "held" = some none)
    (nroom_Fixed : PySem.W.findIn K (.ref C_Fixed) "room" = some none)
    (at_m_Fixed___len__ : PySem.W.findIn K (.ref C_Fixed) "__len__" = some (some (.ref f_m_Fixed___len__)))
    (fn_m_Fixed___len__ : PySem.W.isFn K (.ref f_m_Fixed___len__) = true)
    (l_m_Fixed___len__ : K.lookup f_m_Fixed___len__ = some ⟨oc_m_Fixed___len__, od_m_Fixed___len__, .func (PySem.W.fnOf "__len__" "Chip.__len__" (defArgs sChip___len__) (defBody sChip___len__) (defScope sChip___len__) .none kV_m_Fixed___len__ dc_m_Fixed___len__ pm_m_Fixed___len__ an_m_Fixed___len__ cd_m_Fixed___len__ ct_m_Fixed___len__), sl_m_Fixed___len__⟩)
    (c_m_Fixed___len__ : PySem.W.codeIn K cd_m_Fixed___len__ "Chip.__len__" = true)
    (k_m_Fixed___len__ : PySem.W.keepIn K (.ref f_m_Fixed___len__) = true)
    (at_m_Fixed_state : PySem.W.findIn K (.ref C_Fixed) "state" = some (some (.ref f_m_Fixed_state)))
    (fn_m_Fixed_state : PySem.W.isFn K (.ref f_m_Fixed_state) = true)
    (l_m_Fixed_state : K.lookup f_m_Fixed_state = some ⟨oc_m_Fixed_state, od_m_Fixed_state, .func (PySem.W.fnOf "state" "Chip.state" (defArgs sChip_state) (defBody sChip_state) (defScope sChip_state) .none kV_m_Fixed_state dc_m_Fixed_state pm_m_Fixed_state an_m_Fixed_state cd_m_Fixed_state ct_m_Fixed_state), sl_m_Fixed_state⟩)
    (c_m_Fixed_state : PySem.W.codeIn K cd_m_Fixed_state "Chip.state" = true)
    (k_m_Fixed_state : PySem.W.keepIn K (.ref f_m_Fixed_state) = true)
    (a_Latch : PySem.W.nsIn K mainGlobals "Latch" = some (some (.ref C_Latch)))
    (pg_Latch : PySem.W.plainGet K C_Latch Str.empty = true)
    (hd_Latch : PySem.W.hasDictIn K C_Latch = true)
    (po_Latch : PySem.W.plainOver K C_Latch = true)
    (sa_Latch : PySem.W.findIn K (.ref C_Latch) "__setattr__" = some (some (.builtin "object.__setattr__")))
    (nhead_Latch : PySem.W.findIn K (.ref C_Latch) "head" = some none)
    (nheld_Latch : PySem.W.findIn K (.ref C_Latch) "held" = some none)
    (nroom_Latch : PySem.W.findIn K (.ref C_Latch) "room" = some none)
    (at_m_Latch___len__ : PySem.W.findIn K (.ref C_Latch) "__len__" = some (some (.ref f_m_Latch___len__)))
    (fn_m_Latch___len__ : PySem.W.isFn K (.ref f_m_Latch___len__) = true)
    (l_m_Latch___len__ : K.lookup f_m_Latch___len__ = some ⟨oc_m_Latch___len__, od_m_Latch___len__, .func (PySem.W.fnOf "__len__" "Chip.__len__" (defArgs sChip___len__) (defBody sChip___len__) (defScope sChip___len__) .none kV_m_Latch___len__ dc_m_Latch___len__ pm_m_Latch___len__ an_m_Latch___len__ cd_m_Latch___len__ ct_m_Latch___len__), sl_m_Latch___len__⟩)
    (c_m_Latch___len__ : PySem.W.codeIn K cd_m_Latch___len__ "Chip.__len__" = true)
    (k_m_Latch___len__ : PySem.W.keepIn K (.ref f_m_Latch___len__) = true)
    (at_m_Latch_state : PySem.W.findIn K (.ref C_Latch) "state" = some (some (.ref f_m_Latch_state)))
    (fn_m_Latch_state : PySem.W.isFn K (.ref f_m_Latch_state) = true)
    (l_m_Latch_state : K.lookup f_m_Latch_state = some ⟨oc_m_Latch_state, od_m_Latch_state, .func (PySem.W.fnOf "state" "Chip.state" (defArgs sChip_state) (defBody sChip_state) (defScope sChip_state) .none kV_m_Latch_state dc_m_Latch_state pm_m_Latch_state an_m_Latch_state cd_m_Latch_state ct_m_Latch_state), sl_m_Latch_state⟩)
    (c_m_Latch_state : PySem.W.codeIn K cd_m_Latch_state "Chip.state" = true)
    (k_m_Latch_state : PySem.W.keepIn K (.ref f_m_Latch_state) = true)
    (a_Meter : PySem.W.nsIn K mainGlobals "Meter" = some (some (.ref C_Meter)))
    (pg_Meter : PySem.W.plainGet K C_Meter Str.empty = true)
    (hd_Meter : PySem.W.hasDictIn K C_Meter = true)
    (po_Meter : PySem.W.plainOver K C_Meter = true)
    (sa_Meter : PySem.W.findIn K (.ref C_Meter) "__setattr__" = some (some (.builtin "object.__setattr__")))
    (nhead_Meter : PySem.W.findIn K (.ref C_Meter) "head" = some none)
    (nheld_Meter : PySem.W.findIn K (.ref C_Meter) "held" = some none)
    (nroom_Meter : PySem.W.findIn K (.ref C_Meter) "room" = some none)
    (at_m_Meter___len__ : PySem.W.findIn K (.ref C_Meter) "__len__" = some (some (.ref f_m_Meter___len__)))
    (fn_m_Meter___len__ : PySem.W.isFn K (.ref f_m_Meter___len__) = true)
    (l_m_Meter___len__ : K.lookup f_m_Meter___len__ = some ⟨oc_m_Meter___len__, od_m_Meter___len__, .func (PySem.W.fnOf "__len__" "Chip.__len__" (defArgs sChip___len__) (defBody sChip___len__) (defScope sChip___len__) .none kV_m_Meter___len__ dc_m_Meter___len__ pm_m_Meter___len__ an_m_Meter___len__ cd_m_Meter___len__ ct_m_Meter___len__), sl_m_Meter___len__⟩)
    (c_m_Meter___len__ : PySem.W.codeIn K cd_m_Meter___len__ "Chip.__len__" = true)
    (k_m_Meter___len__ : PySem.W.keepIn K (.ref f_m_Meter___len__) = true)
    (at_m_Meter_state : PySem.W.findIn K (.ref C_Meter) "state" = some (some (.ref f_m_Meter_state)))
    (fn_m_Meter_state : PySem.W.isFn K (.ref f_m_Meter_state) = true)
    (l_m_Meter_state : K.lookup f_m_Meter_state = some ⟨oc_m_Meter_state, od_m_Meter_state, .func (PySem.W.fnOf "state" "Chip.state" (defArgs sChip_state) (defBody sChip_state) (defScope sChip_state) .none kV_m_Meter_state dc_m_Meter_state pm_m_Meter_state an_m_Meter_state cd_m_Meter_state ct_m_Meter_state), sl_m_Meter_state⟩)
    (c_m_Meter_state : PySem.W.codeIn K cd_m_Meter_state "Chip.state" = true)
    (k_m_Meter_state : PySem.W.keepIn K (.ref f_m_Meter_state) = true)
    (a_Pipe : PySem.W.nsIn K mainGlobals "Pipe" = some (some (.ref C_Pipe)))
    (pg_Pipe : PySem.W.plainGet K C_Pipe Str.empty = true)
    (hd_Pipe : PySem.W.hasDictIn K C_Pipe = true)
    (po_Pipe : PySem.W.plainOver K C_Pipe = true)
    (sa_Pipe : PySem.W.findIn K (.ref C_Pipe) "__setattr__" = some (some (.builtin "object.__setattr__")))
    (nhead_Pipe : PySem.W.findIn K (.ref C_Pipe) "head" = some none)
    (nheld_Pipe : PySem.W.findIn K (.ref C_Pipe) "held" = some none)
    (nroom_Pipe : PySem.W.findIn K (.ref C_Pipe) "room" = some none)
    (at_m_Pipe___len__ : PySem.W.findIn K (.ref C_Pipe) "__len__" = some (some (.ref f_m_Pipe___len__)))
    (fn_m_Pipe___len__ : PySem.W.isFn K (.ref f_m_Pipe___len__) = true)
    (l_m_Pipe___len__ : K.lookup f_m_Pipe___len__ = some ⟨oc_m_Pipe___len__, od_m_Pipe___len__, .func (PySem.W.fnOf "__len__" "Pipe.__len__" (defArgs sPipe___len__) (defBody sPipe___len__) (defScope sPipe___len__) .none kV_m_Pipe___len__ dc_m_Pipe___len__ pm_m_Pipe___len__ an_m_Pipe___len__ cd_m_Pipe___len__ ct_m_Pipe___len__), sl_m_Pipe___len__⟩)
    (c_m_Pipe___len__ : PySem.W.codeIn K cd_m_Pipe___len__ "Pipe.__len__" = true)
    (k_m_Pipe___len__ : PySem.W.keepIn K (.ref f_m_Pipe___len__) = true)
    (at_m_Pipe_state : PySem.W.findIn K (.ref C_Pipe) "state" = some (some (.ref f_m_Pipe_state)))
    (fn_m_Pipe_state : PySem.W.isFn K (.ref f_m_Pipe_state) = true)
    (l_m_Pipe_state : K.lookup f_m_Pipe_state = some ⟨oc_m_Pipe_state, od_m_Pipe_state, .func (PySem.W.fnOf "state" "Chip.state" (defArgs sChip_state) (defBody sChip_state) (defScope sChip_state) .none kV_m_Pipe_state dc_m_Pipe_state pm_m_Pipe_state an_m_Pipe_state cd_m_Pipe_state ct_m_Pipe_state), sl_m_Pipe_state⟩)
    (c_m_Pipe_state : PySem.W.codeIn K cd_m_Pipe_state "Chip.state" = true)
    (k_m_Pipe_state : PySem.W.keepIn K (.ref f_m_Pipe_state) = true)
    (mk_i_Store : PySem.W.makesIn K C_Store = true)
    (kc_i_Store : PySem.W.keepIn K (.ref C_Store) = true)
    (at_i_Store : PySem.W.findIn K (.ref C_Store) "__init__" = some (some (.ref f_i_Store)))
    (fn_i_Store : PySem.W.isFn K (.ref f_i_Store) = true)
    (l_i_Store : K.lookup f_i_Store = some ⟨oc_i_Store, od_i_Store, .func (PySem.W.fnOf "__init__" "Store.__init__" (defArgs sStore___init__) (defBody sStore___init__) (defScope sStore___init__) (.ref T_i_Store) kV_i_Store dc_i_Store pm_i_Store an_i_Store cd_i_Store ct_i_Store), sl_i_Store⟩)
    (c_i_Store : PySem.W.codeIn K cd_i_Store "Store.__init__" = true)
    (k_i_Store : PySem.W.keepIn K (.ref f_i_Store) = true)
    (d_i_Store : K.lookup T_i_Store = some ⟨tc_i_Store, td_i_Store, .seq #[.int 0 tt_i_Store] tn_i_Store, ts_i_Store⟩)
    (mk_i_Fixed : PySem.W.makesIn K C_Fixed = true)
    (kc_i_Fixed : PySem.W.keepIn K (.ref C_Fixed) = true)
    (at_i_Fixed : PySem.W.findIn K (.ref C_Fixed) "__init__" = some (some (.ref f_i_Fixed)))
    (fn_i_Fixed : PySem.W.isFn K (.ref f_i_Fixed) = true)
    (l_i_Fixed : K.lookup f_i_Fixed = some ⟨oc_i_Fixed, od_i_Fixed, .func (PySem.W.fnOf "__init__" "Fixed.__init__" (defArgs sFixed___init__) (defBody sFixed___init__) (defScope sFixed___init__) .none kV_i_Fixed dc_i_Fixed pm_i_Fixed an_i_Fixed cd_i_Fixed ct_i_Fixed), sl_i_Fixed⟩)
    (c_i_Fixed : PySem.W.codeIn K cd_i_Fixed "Fixed.__init__" = true)
    (k_i_Fixed : PySem.W.keepIn K (.ref f_i_Fixed) = true)
    (mk_i_Pipe : PySem.W.makesIn K C_Pipe = true)
    (kc_i_Pipe : PySem.W.keepIn K (.ref C_Pipe) = true)
    (at_i_Pipe : PySem.W.findIn K (.ref C_Pipe) "__init__" = some (some (.ref f_i_Pipe)))
    (fn_i_Pipe : PySem.W.isFn K (.ref f_i_Pipe) = true)
    (l_i_Pipe : K.lookup f_i_Pipe = some ⟨oc_i_Pipe, od_i_Pipe, .func (PySem.W.fnOf "__init__" "Pipe.__init__" (defArgs sPipe___init__) (defBody sPipe___init__) (defScope sPipe___init__) (.ref T_i_Pipe) kV_i_Pipe dc_i_Pipe pm_i_Pipe an_i_Pipe cd_i_Pipe ct_i_Pipe), sl_i_Pipe⟩)
    (c_i_Pipe : PySem.W.codeIn K cd_i_Pipe "Pipe.__init__" = true)
    (k_i_Pipe : PySem.W.keepIn K (.ref f_i_Pipe) = true)
    (d_i_Pipe : K.lookup T_i_Pipe = some ⟨tc_i_Pipe, td_i_Pipe, .seq #[.int 4 tt_i_Pipe] tn_i_Pipe, ts_i_Pipe⟩)
    (mk_i_Latch : PySem.W.makesIn K C_Latch = true)
    (kc_i_Latch : PySem.W.keepIn K (.ref C_Latch) = true)
    (at_i_Latch : PySem.W.findIn K (.ref C_Latch) "__init__" = some (some (.ref f_i_Latch)))
    (fn_i_Latch : PySem.W.isFn K (.ref f_i_Latch) = true)
    (l_i_Latch : K.lookup f_i_Latch = some ⟨oc_i_Latch, od_i_Latch, .func (PySem.W.fnOf "__init__" "Latch.__init__" (defArgs sLatch___init__) (defBody sLatch___init__) (defScope sLatch___init__) (.ref T_i_Latch) kV_i_Latch dc_i_Latch pm_i_Latch an_i_Latch cd_i_Latch ct_i_Latch), sl_i_Latch⟩)
    (c_i_Latch : PySem.W.codeIn K cd_i_Latch "Latch.__init__" = true)
    (k_i_Latch : PySem.W.keepIn K (.ref f_i_Latch) = true)
    (d_i_Latch : K.lookup T_i_Latch = some ⟨tc_i_Latch, td_i_Latch, .seq #[.int 0 tt_i_Latch] tn_i_Latch, ts_i_Latch⟩)
    (mk_i_Meter : PySem.W.makesIn K C_Meter = true)
    (kc_i_Meter : PySem.W.keepIn K (.ref C_Meter) = true)
    (at_i_Meter : PySem.W.findIn K (.ref C_Meter) "__init__" = some (some (.ref f_i_Meter)))
    (fn_i_Meter : PySem.W.isFn K (.ref f_i_Meter) = true)
    (l_i_Meter : K.lookup f_i_Meter = some ⟨oc_i_Meter, od_i_Meter, .func (PySem.W.fnOf "__init__" "Meter.__init__" (defArgs sMeter___init__) (defBody sMeter___init__) (defScope sMeter___init__) (.ref T_i_Meter) kV_i_Meter dc_i_Meter pm_i_Meter an_i_Meter cd_i_Meter ct_i_Meter), sl_i_Meter⟩)
    (c_i_Meter : PySem.W.codeIn K cd_i_Meter "Meter.__init__" = true)
    (k_i_Meter : PySem.W.keepIn K (.ref f_i_Meter) = true)
    (d_i_Meter : K.lookup T_i_Meter = some ⟨tc_i_Meter, td_i_Meter, .seq #[.int 0 tt_i_Meter] tn_i_Meter, ts_i_Meter⟩)
    (a0__law_bag : PySem.W.nsIn K mainGlobals "_law_bag" = some (some (.ref f__law_bag)))
    (l__law_bag : K.lookup f__law_bag = some ⟨oc__law_bag, od__law_bag, .func (PySem.W.fnOf "_law_bag" "_law_bag" (defArgs s_law_bag) (defBody s_law_bag) (defScope s_law_bag) .none kV__law_bag dc__law_bag pm__law_bag an__law_bag cd__law_bag ct__law_bag), sl__law_bag⟩)
    (c__law_bag : PySem.W.codeIn K cd__law_bag "_law_bag" = true)
    (k__law_bag : PySem.W.keepIn K (.ref f__law_bag) = true)
    (a0__law_draw : PySem.W.nsIn K mainGlobals "_law_draw" = some (some (.ref f__law_draw)))
    (l__law_draw : K.lookup f__law_draw = some ⟨oc__law_draw, od__law_draw, .func (PySem.W.fnOf "_law_draw" "_law_draw" (defArgs s_law_draw) (defBody s_law_draw) (defScope s_law_draw) .none kV__law_draw dc__law_draw pm__law_draw an__law_draw cd__law_draw ct__law_draw), sl__law_draw⟩)
    (c__law_draw : PySem.W.codeIn K cd__law_draw "_law_draw" = true)
    (k__law_draw : PySem.W.keepIn K (.ref f__law_draw) = true)
    (a0__law_alike : PySem.W.nsIn K mainGlobals "_law_alike" = some (some (.ref f__law_alike)))
    (l__law_alike : K.lookup f__law_alike = some ⟨oc__law_alike, od__law_alike, .func (PySem.W.fnOf "_law_alike" "_law_alike" (defArgs s_law_alike) (defBody s_law_alike) (defScope s_law_alike) .none kV__law_alike dc__law_alike pm__law_alike an__law_alike cd__law_alike ct__law_alike), sl__law_alike⟩)
    (c__law_alike : PySem.W.codeIn K cd__law_alike "_law_alike" = true)
    (k__law_alike : PySem.W.keepIn K (.ref f__law_alike) = true)
    (a0__law_big : PySem.W.nsIn K mainGlobals "_law_big" = some (some (.ref f__law_big)))
    (l__law_big : K.lookup f__law_big = some ⟨oc__law_big, od__law_big, .func (PySem.W.fnOf "_law_big" "_law_big" (defArgs s_law_big) (defBody s_law_big) (defScope s_law_big) .none kV__law_big dc__law_big pm__law_big an__law_big cd__law_big ct__law_big), sl__law_big⟩)
    (c__law_big : PySem.W.codeIn K cd__law_big "_law_big" = true)
    (k__law_big : PySem.W.keepIn K (.ref f__law_big) = true)
    (a0__law_near : PySem.W.nsIn K mainGlobals "_law_near" = some (some (.ref f__law_near)))
    (l__law_near : K.lookup f__law_near = some ⟨oc__law_near, od__law_near, .func (PySem.W.fnOf "_law_near" "_law_near" (defArgs s_law_near) (defBody s_law_near) (defScope s_law_near) .none kV__law_near dc__law_near pm__law_near an__law_near cd__law_near ct__law_near), sl__law_near⟩)
    (c__law_near : PySem.W.codeIn K cd__law_near "_law_near" = true)
    (k__law_near : PySem.W.keepIn K (.ref f__law_near) = true)
    (a0__law_words : PySem.W.nsIn K mainGlobals "_law_words" = some (some (.ref f__law_words)))
    (l__law_words : K.lookup f__law_words = some ⟨oc__law_words, od__law_words, .func (PySem.W.fnOf "_law_words" "_law_words" (defArgs s_law_words) (defBody s_law_words) (defScope s_law_words) .none kV__law_words dc__law_words pm__law_words an__law_words cd__law_words ct__law_words), sl__law_words⟩)
    (c__law_words : PySem.W.codeIn K cd__law_words "_law_words" = true)
    (k__law_words : PySem.W.keepIn K (.ref f__law_words) = true)
    (a0__law_wanted : PySem.W.nsIn K mainGlobals "_law_wanted" = some (some (.ref f__law_wanted)))
    (l__law_wanted : K.lookup f__law_wanted = some ⟨oc__law_wanted, od__law_wanted, .func (PySem.W.fnOf "_law_wanted" "_law_wanted" (defArgs s_law_wanted) (defBody s_law_wanted) (defScope s_law_wanted) .none kV__law_wanted dc__law_wanted pm__law_wanted an__law_wanted cd__law_wanted ct__law_wanted), sl__law_wanted⟩)
    (c__law_wanted : PySem.W.codeIn K cd__law_wanted "_law_wanted" = true)
    (k__law_wanted : PySem.W.keepIn K (.ref f__law_wanted) = true)
    (a0__law_only : PySem.W.nsIn K mainGlobals "_law_only" = some (some (.ref f__law_only)))
    (l__law_only : K.lookup f__law_only = some ⟨oc__law_only, od__law_only, .func (PySem.W.fnOf "_law_only" "_law_only" (defArgs s_law_only) (defBody s_law_only) (defScope s_law_only) .none kV__law_only dc__law_only pm__law_only an__law_only cd__law_only ct__law_only), sl__law_only⟩)
    (c__law_only : PySem.W.codeIn K cd__law_only "_law_only" = true)
    (k__law_only : PySem.W.keepIn K (.ref f__law_only) = true)
    (a0__law_made : PySem.W.nsIn K mainGlobals "_law_made" = some (some (.ref f__law_made)))
    (l__law_made : K.lookup f__law_made = some ⟨oc__law_made, od__law_made, .func (PySem.W.fnOf "_law_made" "_law_made" (defArgs s_law_made) (defBody s_law_made) (defScope s_law_made) .none kV__law_made dc__law_made pm__law_made an__law_made cd__law_made ct__law_made), sl__law_made⟩)
    (c__law_made : PySem.W.codeIn K cd__law_made "_law_made" = true)
    (k__law_made : PySem.W.keepIn K (.ref f__law_made) = true)
    (a0__law_asked : PySem.W.nsIn K mainGlobals "_law_asked" = some (some (.ref f__law_asked)))
    (l__law_asked : K.lookup f__law_asked = some ⟨oc__law_asked, od__law_asked, .func (PySem.W.fnOf "_law_asked" "_law_asked" (defArgs s_law_asked) (defBody s_law_asked) (defScope s_law_asked) .none kV__law_asked dc__law_asked pm__law_asked an__law_asked cd__law_asked ct__law_asked), sl__law_asked⟩)
    (c__law_asked : PySem.W.codeIn K cd__law_asked "_law_asked" = true)
    (k__law_asked : PySem.W.keepIn K (.ref f__law_asked) = true)
    (a0__law_good : PySem.W.nsIn K mainGlobals "_law_good" = some (some (.ref f__law_good)))
    (l__law_good : K.lookup f__law_good = some ⟨oc__law_good, od__law_good, .func (PySem.W.fnOf "_law_good" "_law_good" (defArgs s_law_good) (defBody s_law_good) (defScope s_law_good) .none kV__law_good dc__law_good pm__law_good an__law_good cd__law_good ct__law_good), sl__law_good⟩)
    (c__law_good : PySem.W.codeIn K cd__law_good "_law_good" = true)
    (k__law_good : PySem.W.keepIn K (.ref f__law_good) = true)
    (a0__law_stands : PySem.W.nsIn K mainGlobals "_law_stands" = some (some (.ref f__law_stands)))
    (l__law_stands : K.lookup f__law_stands = some ⟨oc__law_stands, od__law_stands, .func (PySem.W.fnOf "_law_stands" "_law_stands" (defArgs s_law_stands) (defBody s_law_stands) (defScope s_law_stands) .none kV__law_stands dc__law_stands pm__law_stands an__law_stands cd__law_stands ct__law_stands), sl__law_stands⟩)
    (c__law_stands : PySem.W.codeIn K cd__law_stands "_law_stands" = true)
    (k__law_stands : PySem.W.keepIn K (.ref f__law_stands) = true)
    (a0_law : PySem.W.nsIn K mainGlobals "law" = some (some (.ref f_law)))
    (l_law : K.lookup f_law = some ⟨oc_law, od_law, .func (PySem.W.fnOf "law" "law" (defArgs slaw) (defBody slaw) (defScope slaw) .none kV_law dc_law pm_law an_law cd_law ct_law), sl_law⟩)
    (c_law : PySem.W.codeIn K cd_law "law" = true)
    (k_law : PySem.W.keepIn K (.ref f_law) = true)
    (z_LAST_WORD : PySem.W.nsIn K mainGlobals "LAST_WORD" = some (some (.int 255 tk_LAST_WORD)))
    (z_MOST_CELLS : PySem.W.nsIn K mainGlobals "MOST_CELLS" = some (some (.int 4096 tk_MOST_CELLS)))
    (z_MOST_ROOM : PySem.W.nsIn K mainGlobals "MOST_ROOM" = some (some (.int 255 tk_MOST_ROOM)))
    (z_SIXTEEN : PySem.W.nsIn K mainGlobals "SIXTEEN" = some (some (.str "0123456789abcdef" tk_SIXTEEN)))
    (z_len : PySem.W.nsIn K mainGlobals "len" = some none)
    (z_sum : PySem.W.nsIn K mainGlobals "sum" = some none)
    (z_all : PySem.W.nsIn K mainGlobals "all" = some none)
    (z_max : PySem.W.nsIn K mainGlobals "max" = some none)
    (z_min : PySem.W.nsIn K mainGlobals "min" = some none)
    (z_int : PySem.W.nsIn K mainGlobals "int" = some none)
    (z_bool : PySem.W.nsIn K mainGlobals "bool" = some none)
    (z_isinstance : PySem.W.nsIn K mainGlobals "isinstance" = some none)
    (z_range : PySem.W.nsIn K mainGlobals "range" = some none)
    (z_enumerate : PySem.W.nsIn K mainGlobals "enumerate" = some none)
    (z_zip : PySem.W.nsIn K mainGlobals "zip" = some none)
    (z_str : PySem.W.nsIn K mainGlobals "str" = some none)
    (z_tuple : PySem.W.nsIn K mainGlobals "tuple" = some none)
    (z_list : PySem.W.nsIn K mainGlobals "list" = some none) :
    ∃ fd : FuncData, (∀ (s : Shared) (v : Value), BindsTo s fd ⟨[v], []⟩ [("script", v)]) ∧ ∀ base : Heap, K.In base → base.Ns mainGlobals mg → FnOk l.prog w K mg base CX0 7 fa fd ["script"] (spLaw K) := by
  have T : Blt mg := ⟨PySem.W.mg_none_of X G z_len, PySem.W.mg_none_of X G z_sum, PySem.W.mg_none_of X G z_all, PySem.W.mg_none_of X G z_max, PySem.W.mg_none_of X G z_min, PySem.W.mg_none_of X G z_int, PySem.W.mg_none_of X G z_bool, PySem.W.mg_none_of X G z_isinstance, PySem.W.mg_none_of X G z_range, PySem.W.mg_none_of X G z_enumerate, PySem.W.mg_none_of X G z_zip, PySem.W.mg_none_of X G z_str, PySem.W.mg_none_of X G z_tuple, PySem.W.mg_none_of X G z_list⟩
  have N : Nums mg := ⟨⟨_, PySem.W.mg_of X G z_LAST_WORD⟩, ⟨_, PySem.W.mg_of X G z_MOST_CELLS⟩, ⟨_, PySem.W.mg_of X G z_MOST_ROOM⟩, ⟨_, PySem.W.mg_of X G z_SIXTEEN⟩⟩
  have F_is_number := fun_mk (st := sis_number) l_is_number c_is_number k_is_number
  have b_is_number := F_is_number.binds (ps := ["thing", "last"]) fun _ _ _ _ _ _ us hl => (by apply ln2 us hl; intro _ _; exact rfl)
  have F_is_word := fun_mk (st := sis_word) l_is_word c_is_word k_is_word
  have b_is_word := F_is_word.binds (ps := ["thing"]) fun _ _ _ _ _ _ us hl => (by apply ln1 us hl; intro _; exact rfl)
  have F_cm_Chip___init__ := fun_mk (st := sChip___init__) l_cm_Chip___init__ c_cm_Chip___init__ k_cm_Chip___init__
  have F_by_figures := fun_mk (st := sby_figures) l_by_figures c_by_figures k_by_figures
  have b_by_figures := F_by_figures.binds (ps := ["number", "many"]) fun _ _ _ _ _ _ us hl => (by apply ln2 us hl; intro _ _; exact rfl)
  have F_two_figures := fun_mk (st := stwo_figures) l_two_figures c_two_figures k_two_figures
  have b_two_figures := F_two_figures.binds (ps := ["word"]) fun _ _ _ _ _ _ us hl => (by apply ln1 us hl; intro _; exact rfl)
  have cl_Store : ClsOk K C_Store := ⟨⟨pg_Store, hd_Store, po_Store, sa_Store⟩, nhead_Store, nheld_Store, nroom_Store⟩
  have F_m_Store___len__ := fun_mk (st := sChip___len__) l_m_Store___len__ c_m_Store___len__ k_m_Store___len__
  have F_m_Store_state := fun_mk (st := sChip_state) l_m_Store_state c_m_Store_state k_m_Store_state
  have cl_Fixed : ClsOk K C_Fixed := ⟨⟨pg_Fixed, hd_Fixed, po_Fixed, sa_Fixed⟩, nhead_Fixed, nheld_Fixed, nroom_Fixed⟩
  have F_m_Fixed___len__ := fun_mk (st := sChip___len__) l_m_Fixed___len__ c_m_Fixed___len__ k_m_Fixed___len__
  have F_m_Fixed_state := fun_mk (st := sChip_state) l_m_Fixed_state c_m_Fixed_state k_m_Fixed_state
  have cl_Latch : ClsOk K C_Latch := ⟨⟨pg_Latch, hd_Latch, po_Latch, sa_Latch⟩, nhead_Latch, nheld_Latch, nroom_Latch⟩
  have F_m_Latch___len__ := fun_mk (st := sChip___len__) l_m_Latch___len__ c_m_Latch___len__ k_m_Latch___len__
  have F_m_Latch_state := fun_mk (st := sChip_state) l_m_Latch_state c_m_Latch_state k_m_Latch_state
  have cl_Meter : ClsOk K C_Meter := ⟨⟨pg_Meter, hd_Meter, po_Meter, sa_Meter⟩, nhead_Meter, nheld_Meter, nroom_Meter⟩
  have F_m_Meter___len__ := fun_mk (st := sChip___len__) l_m_Meter___len__ c_m_Meter___len__ k_m_Meter___len__
  have F_m_Meter_state := fun_mk (st := sChip_state) l_m_Meter_state c_m_Meter_state k_m_Meter_state
  have cl_Pipe : ClsOk K C_Pipe := ⟨⟨pg_Pipe, hd_Pipe, po_Pipe, sa_Pipe⟩, nhead_Pipe, nheld_Pipe, nroom_Pipe⟩
  have F_m_Pipe___len__ := fun_mk (st := sPipe___len__) l_m_Pipe___len__ c_m_Pipe___len__ k_m_Pipe___len__
  have F_m_Pipe_state := fun_mk (st := sChip_state) l_m_Pipe_state c_m_Pipe_state k_m_Pipe_state
  have F_i_Store := funD_mk (st := sStore___init__) l_i_Store c_i_Store k_i_Store
  have F_i_Fixed := fun_mk (st := sFixed___init__) l_i_Fixed c_i_Fixed k_i_Fixed
  have F_i_Pipe := funD_mk (st := sPipe___init__) l_i_Pipe c_i_Pipe k_i_Pipe
  have F_i_Latch := funD_mk (st := sLatch___init__) l_i_Latch c_i_Latch k_i_Latch
  have F_i_Meter := funD_mk (st := sMeter___init__) l_i_Meter c_i_Meter k_i_Meter
  have F__law_bag := fun_mk (st := s_law_bag) l__law_bag c__law_bag k__law_bag
  have b__law_bag := F__law_bag.binds (ps := ["seed", "place"]) fun _ _ _ _ _ _ us hl => (by apply ln2 us hl; intro _ _; exact rfl)
  have F__law_draw := fun_mk (st := s_law_draw) l__law_draw c__law_draw k__law_draw
  have b__law_draw := F__law_draw.binds (ps := ["bag", "many"]) fun _ _ _ _ _ _ us hl => (by apply ln2 us hl; intro _ _; exact rfl)
  have F__law_alike := fun_mk (st := s_law_alike) l__law_alike c__law_alike k__law_alike
  have b__law_alike := F__law_alike.binds (ps := ["found", "due"]) fun _ _ _ _ _ _ us hl => (by apply ln2 us hl; intro _ _; exact rfl)
  have F__law_big := fun_mk (st := s_law_big) l__law_big c__law_big k__law_big
  have b__law_big := F__law_big.binds (ps := ["bag"]) fun _ _ _ _ _ _ us hl => (by apply ln1 us hl; intro _; exact rfl)
  have F__law_near := fun_mk (st := s_law_near) l__law_near c__law_near k__law_near
  have b__law_near := F__law_near.binds (ps := ["bag", "most"]) fun _ _ _ _ _ _ us hl => (by apply ln2 us hl; intro _ _; exact rfl)
  have F__law_words := fun_mk (st := s_law_words) l__law_words c__law_words k__law_words
  have b__law_words := F__law_words.binds (ps := ["bag"]) fun _ _ _ _ _ _ us hl => (by apply ln1 us hl; intro _; exact rfl)
  have F__law_wanted := fun_mk (st := s_law_wanted) l__law_wanted c__law_wanted k__law_wanted
  have b__law_wanted := F__law_wanted.binds (ps := ["bag"]) fun _ _ _ _ _ _ us hl => (by apply ln1 us hl; intro _; exact rfl)
  have F__law_only := fun_mk (st := s_law_only) l__law_only c__law_only k__law_only
  have b__law_only := F__law_only.binds (ps := ["due"]) fun _ _ _ _ _ _ us hl => (by apply ln1 us hl; intro _; exact rfl)
  have F__law_made := fun_mk (st := s_law_made) l__law_made c__law_made k__law_made
  have b__law_made := F__law_made.binds (ps := ["kind", "many", "row", "named"]) fun _ _ _ _ _ _ us hl => (by apply ln4 us hl; intro _ _ _ _; exact rfl)
  have F__law_asked := fun_mk (st := s_law_asked) l__law_asked c__law_asked k__law_asked
  have b__law_asked := F__law_asked.binds (ps := ["kind", "many", "row", "named"]) fun _ _ _ _ _ _ us hl => (by apply ln4 us hl; intro _ _ _ _; exact rfl)
  have F__law_good := fun_mk (st := s_law_good) l__law_good c__law_good k__law_good
  have b__law_good := F__law_good.binds (ps := ["kind", "many", "row"]) fun _ _ _ _ _ _ us hl => (by apply ln3 us hl; intro _ _ _; exact rfl)
  have F__law_stands := fun_mk (st := s_law_stands) l__law_stands c__law_stands k__law_stands
  have b__law_stands := F__law_stands.binds (ps := ["chip", "kind", "many", "row"]) fun _ _ _ _ _ _ us hl => (by apply ln4 us hl; intro _ _ _ _; exact rfl)
  have F_law := fun_mk (st := slaw) l_law c_law k_law
  have b_law := F_law.binds (ps := ["script"]) fun _ _ _ _ _ _ us hl => (by apply ln1 us hl; intro _; exact rfl)
  have e := hfa.symm.trans (PySem.W.mg_of X G a0_law)
  cases e
  refine ⟨PySem.W.fnOf "law" "law" (defArgs slaw) (defBody slaw) (defScope slaw) .none kV_law dc_law pm_law an_law cd_law ct_law, fun s v => .of_eq rfl, fun base _ _ => ?_⟩
  have sk : ∀ es : Array DictEntry, es.toList.all (fun e => match e.key with | .str _ _ => true | _ => false) = true → StrKeys es := fun es h e he => strKey (List.all_eq_true.mp h e (Array.mem_toList_iff.mpr he))
  have xk : ExcK K C_NoChip := ⟨⟨_, _, _, _, _, _, _, _, _, _, _, _, _, _, _, _, xl, ⟨_, _, _, _, _, xn, sk _ xs, xi⟩, .own yl ⟨_, _, _, _, _, yn, sk _ ys, yi⟩ .base⟩⟩
  have xc : XCls K C_NoChip := ⟨⟨_, _, _, _, xl⟩, c1_, c2_, c3_, c4_, c5_⟩
  have G_is_number : FnOk l.prog w K mg base CX0 1 f_is_number _ ["thing", "last"] spIsNum := okis_number F_is_number T
  have C_is_number : Cal l.prog w K mg base 1 "is_number" ["thing", "last"] spIsNum := ⟨f_is_number, _, G_is_number, PySem.W.mg_of X G a0_is_number, k_is_number, b_is_number⟩
  have G_is_word : FnOk l.prog w K mg base CX0 2 f_is_word _ ["thing"] spIsWord := okis_word F_is_word T N C_is_number
  have C_is_word : Cal l.prog w K mg base 2 "is_word" ["thing"] spIsWord := ⟨f_is_word, _, G_is_word, PySem.W.mg_of X G a0_is_word, k_is_word, b_is_word⟩
  have CL_Chip___init__ : Clm l.prog w K mg base 1 "Chip" "__init__" (spInit K) := ⟨⟨C_Chip, f_cm_Chip___init__, _, _, _, PySem.W.mg_of X G a_Chip, sg_cm_Chip___init__, rd_cm_Chip___init__, fc_cm_Chip___init__, k_cm_Chip___init__, okChip___init__ F_cm_Chip___init__ T, F_cm_Chip___init__.binds (ps := ["self", "head", "held"]) fun _ _ _ _ _ _ us hl => (by apply ln3 us hl; intro _ _ _; exact rfl)⟩⟩
  have G_by_figures : FnOk l.prog w K mg base CX0 1 f_by_figures _ ["number", "many"] spByFig := okby_figures F_by_figures T N
  have C_by_figures : Cal l.prog w K mg base 1 "by_figures" ["number", "many"] spByFig := ⟨f_by_figures, _, G_by_figures, PySem.W.mg_of X G a0_by_figures, k_by_figures, b_by_figures⟩
  have G_two_figures : FnOk l.prog w K mg base CX0 2 f_two_figures _ ["word"] sp2fig := oktwo_figures F_two_figures T C_by_figures
  have C_two_figures : Cal l.prog w K mg base 2 "two_figures" ["word"] sp2fig := ⟨f_two_figures, _, G_two_figures, PySem.W.mg_of X G a0_two_figures, k_two_figures, b_two_figures⟩
  have G_m_Store___len__ : FnOk l.prog w K mg base CX0 1 f_m_Store___len__ _ ["self"] (spLen C_Store List.length) := okChip___len__ (C := C_Store) F_m_Store___len__ T cl_Store
  have M_Store___len__ : Mth l.prog w K mg base 1 C_Store "__len__" [] (fun vs _ => vs) (spLen C_Store List.length) := ⟨cl_Store.cl, f_m_Store___len__, _, _, _, ⟨at_m_Store___len__, fn_m_Store___len__, k_m_Store___len__⟩, G_m_Store___len__, (KBinds.pos (F_m_Store___len__.binds (ps := ["self"]) fun _ _ _ _ _ _ us hl => (by apply ln1 us hl; intro _; exact rfl)))⟩
  have G_m_Store_state : FnOk l.prog w K mg base CX0 1 f_m_Store_state _ ["self"] (spState C_Store) := okChip_state (C := C_Store) F_m_Store_state T cl_Store
  have M_Store_state : Mth l.prog w K mg base 1 C_Store "state" [] (fun vs _ => vs) (spState C_Store) := ⟨cl_Store.cl, f_m_Store_state, _, _, _, ⟨at_m_Store_state, fn_m_Store_state, k_m_Store_state⟩, G_m_Store_state, (KBinds.pos (F_m_Store_state.binds (ps := ["self"]) fun _ _ _ _ _ _ us hl => (by apply ln1 us hl; intro _; exact rfl)))⟩
  have G_m_Fixed___len__ : FnOk l.prog w K mg base CX0 1 f_m_Fixed___len__ _ ["self"] (spLen C_Fixed List.length) := okChip___len__ (C := C_Fixed) F_m_Fixed___len__ T cl_Fixed
  have M_Fixed___len__ : Mth l.prog w K mg base 1 C_Fixed "__len__" [] (fun vs _ => vs) (spLen C_Fixed List.length) := ⟨cl_Fixed.cl, f_m_Fixed___len__, _, _, _, ⟨at_m_Fixed___len__, fn_m_Fixed___len__, k_m_Fixed___len__⟩, G_m_Fixed___len__, (KBinds.pos (F_m_Fixed___len__.binds (ps := ["self"]) fun _ _ _ _ _ _ us hl => (by apply ln1 us hl; intro _; exact rfl)))⟩
  have G_m_Fixed_state : FnOk l.prog w K mg base CX0 1 f_m_Fixed_state _ ["self"] (spState C_Fixed) := okChip_state (C := C_Fixed) F_m_Fixed_state T cl_Fixed
  have M_Fixed_state : Mth l.prog w K mg base 1 C_Fixed "state" [] (fun vs _ => vs) (spState C_Fixed) := ⟨cl_Fixed.cl, f_m_Fixed_state, _, _, _, ⟨at_m_Fixed_state, fn_m_Fixed_state, k_m_Fixed_state⟩, G_m_Fixed_state, (KBinds.pos (F_m_Fixed_state.binds (ps := ["self"]) fun _ _ _ _ _ _ us hl => (by apply ln1 us hl; intro _; exact rfl)))⟩
  have G_m_Latch___len__ : FnOk l.prog w K mg base CX0 1 f_m_Latch___len__ _ ["self"] (spLen C_Latch List.length) := okChip___len__ (C := C_Latch) F_m_Latch___len__ T cl_Latch
  have M_Latch___len__ : Mth l.prog w K mg base 1 C_Latch "__len__" [] (fun vs _ => vs) (spLen C_Latch List.length) := ⟨cl_Latch.cl, f_m_Latch___len__, _, _, _, ⟨at_m_Latch___len__, fn_m_Latch___len__, k_m_Latch___len__⟩, G_m_Latch___len__, (KBinds.pos (F_m_Latch___len__.binds (ps := ["self"]) fun _ _ _ _ _ _ us hl => (by apply ln1 us hl; intro _; exact rfl)))⟩
  have G_m_Latch_state : FnOk l.prog w K mg base CX0 1 f_m_Latch_state _ ["self"] (spState C_Latch) := okChip_state (C := C_Latch) F_m_Latch_state T cl_Latch
  have M_Latch_state : Mth l.prog w K mg base 1 C_Latch "state" [] (fun vs _ => vs) (spState C_Latch) := ⟨cl_Latch.cl, f_m_Latch_state, _, _, _, ⟨at_m_Latch_state, fn_m_Latch_state, k_m_Latch_state⟩, G_m_Latch_state, (KBinds.pos (F_m_Latch_state.binds (ps := ["self"]) fun _ _ _ _ _ _ us hl => (by apply ln1 us hl; intro _; exact rfl)))⟩
  have G_m_Meter___len__ : FnOk l.prog w K mg base CX0 1 f_m_Meter___len__ _ ["self"] (spLen C_Meter List.length) := okChip___len__ (C := C_Meter) F_m_Meter___len__ T cl_Meter
  have M_Meter___len__ : Mth l.prog w K mg base 1 C_Meter "__len__" [] (fun vs _ => vs) (spLen C_Meter List.length) := ⟨cl_Meter.cl, f_m_Meter___len__, _, _, _, ⟨at_m_Meter___len__, fn_m_Meter___len__, k_m_Meter___len__⟩, G_m_Meter___len__, (KBinds.pos (F_m_Meter___len__.binds (ps := ["self"]) fun _ _ _ _ _ _ us hl => (by apply ln1 us hl; intro _; exact rfl)))⟩
  have G_m_Meter_state : FnOk l.prog w K mg base CX0 1 f_m_Meter_state _ ["self"] (spState C_Meter) := okChip_state (C := C_Meter) F_m_Meter_state T cl_Meter
  have M_Meter_state : Mth l.prog w K mg base 1 C_Meter "state" [] (fun vs _ => vs) (spState C_Meter) := ⟨cl_Meter.cl, f_m_Meter_state, _, _, _, ⟨at_m_Meter_state, fn_m_Meter_state, k_m_Meter_state⟩, G_m_Meter_state, (KBinds.pos (F_m_Meter_state.binds (ps := ["self"]) fun _ _ _ _ _ _ us hl => (by apply ln1 us hl; intro _; exact rfl)))⟩
  have G_m_Pipe___len__ : FnOk l.prog w K mg base CX0 1 f_m_Pipe___len__ _ ["self"] (spLen C_Pipe two) := okPipe___len__ (C := C_Pipe) F_m_Pipe___len__ T cl_Pipe
  have M_Pipe___len__ : Mth l.prog w K mg base 1 C_Pipe "__len__" [] (fun vs _ => vs) (spLen C_Pipe two) := ⟨cl_Pipe.cl, f_m_Pipe___len__, _, _, _, ⟨at_m_Pipe___len__, fn_m_Pipe___len__, k_m_Pipe___len__⟩, G_m_Pipe___len__, (KBinds.pos (F_m_Pipe___len__.binds (ps := ["self"]) fun _ _ _ _ _ _ us hl => (by apply ln1 us hl; intro _; exact rfl)))⟩
  have G_m_Pipe_state : FnOk l.prog w K mg base CX0 1 f_m_Pipe_state _ ["self"] (spState C_Pipe) := okChip_state (C := C_Pipe) F_m_Pipe_state T cl_Pipe
  have M_Pipe_state : Mth l.prog w K mg base 1 C_Pipe "state" [] (fun vs _ => vs) (spState C_Pipe) := ⟨cl_Pipe.cl, f_m_Pipe_state, _, _, _, ⟨at_m_Pipe_state, fn_m_Pipe_state, k_m_Pipe_state⟩, G_m_Pipe_state, (KBinds.pos (F_m_Pipe_state.binds (ps := ["self"]) fun _ _ _ _ _ _ us hl => (by apply ln1 us hl; intro _; exact rfl)))⟩
  have G_i_Store : FnOk l.prog w K mg base (CX1 l.prog w) 3 f_i_Store _ ["self", "cells", "word"] (spMkSX C_Store C_NoChip) := okStore___init__ (C := C_Store) F_i_Store T N cl_Store (PySem.W.mg_of X G a_NoChip) xk C_is_number C_is_word CL_Chip___init__
  have GMXStore_cells_word : MakX l.prog w K mg base 3 "Store" C_Store ["cells", "word"] k2n (spMkSX C_Store C_NoChip) := ⟨PySem.W.mg_of X G a_Store, f_i_Store, _, _, _, ⟨mk_i_Store, at_i_Store, fn_i_Store, kc_i_Store⟩, G_i_Store, (F_i_Store.kbinds (ps := ["self", "cells", "word"]) (ks := ["cells", "word"]) (g := k2n) d_i_Store rfl (fun _ _ _ _ _ _ us ws hl => (match us, ws, hl with | [_], [_, _], _ => ⟨_, rfl, rfl⟩ | [_], [_], h => nomatch h | [], _, h => nomatch h | [_], [], h => nomatch h | [_], _ :: _ :: _ :: _, h => nomatch h | _ :: _ :: _, _, h => nomatch h)) Vals.k2n)⟩
  have GMXStore_2 : MakX l.prog w K mg base 3 "Store" C_Store [] (dP []) (spMkSX C_Store C_NoChip) := ⟨PySem.W.mg_of X G a_Store, f_i_Store, _, _, _, ⟨mk_i_Store, at_i_Store, fn_i_Store, kc_i_Store⟩, G_i_Store, (F_i_Store.kbinds (ps := ["self", "cells", "word"]) (ks := []) (g := dP []) d_i_Store rfl (fun _ _ _ _ _ _ us ws hl => (by have hl' : us.length = 3 := (by have h := hl; unfold dP at h; rw [List.length_append] at h; have h2 : (["self", "cells", "word"] : List Str).length = 3 := rfl; simp only [List.length_cons, List.length_nil] at h; omega); exact (by apply ln3 us hl'; intro _ _ _; exact ⟨_, rfl, rfl⟩))) (Vals.dP (show Vals ([] : List V) ([] : List Value) from .nil)))⟩
  have G_i_Fixed : FnOk l.prog w K mg base (CX1 l.prog w) 3 f_i_Fixed _ ["self", "words"] (spMkFX C_Fixed C_NoChip) := okFixed___init__ (C := C_Fixed) F_i_Fixed T N cl_Fixed (PySem.W.mg_of X G a_NoChip) xk C_is_word CL_Chip___init__
  have GMXFixed_words : MakX l.prog w K mg base 3 "Fixed" C_Fixed ["words"] k1 (spMkFX C_Fixed C_NoChip) := ⟨PySem.W.mg_of X G a_Fixed, f_i_Fixed, _, _, _, ⟨mk_i_Fixed, at_i_Fixed, fn_i_Fixed, kc_i_Fixed⟩, G_i_Fixed, (F_i_Fixed.kbinds (ps := ["self", "words"]) (ks := ["words"]) (g := k1) (fun _ _ _ _ _ _ us ws hl => (match us, ws, hl with | [_], [_], _ => rfl | [], _, h => nomatch h | [_], [], h => nomatch h | [_], _ :: _ :: _, h => nomatch h | _ :: _ :: _, _, h => nomatch h)) Vals.k1)⟩
  have GMXFixed_1 : MakX l.prog w K mg base 3 "Fixed" C_Fixed [] (dP []) (spMkFX C_Fixed C_NoChip) := ⟨PySem.W.mg_of X G a_Fixed, f_i_Fixed, _, _, _, ⟨mk_i_Fixed, at_i_Fixed, fn_i_Fixed, kc_i_Fixed⟩, G_i_Fixed, (F_i_Fixed.kbinds (ps := ["self", "words"]) (ks := []) (g := dP []) (fun _ _ _ _ _ _ us ws hl => (by have hl' : us.length = 2 := (by have h := hl; unfold dP at h; rw [List.length_append] at h; have h2 : (["self", "words"] : List Str).length = 2 := rfl; simp only [List.length_cons, List.length_nil] at h; omega); exact (by apply ln2 us hl'; intro _ _; exact rfl))) (Vals.dP (show Vals ([] : List V) ([] : List Value) from .nil)))⟩
  have G_i_Pipe : FnOk l.prog w K mg base (CX1 l.prog w) 3 f_i_Pipe _ ["self", "room"] (spMkPX C_Pipe C_NoChip) := okPipe___init__ (C := C_Pipe) F_i_Pipe T N cl_Pipe (PySem.W.mg_of X G a_NoChip) xk C_is_number C_two_figures CL_Chip___init__
  have GMXPipe_room : MakX l.prog w K mg base 3 "Pipe" C_Pipe ["room"] k1 (spMkPX C_Pipe C_NoChip) := ⟨PySem.W.mg_of X G a_Pipe, f_i_Pipe, _, _, _, ⟨mk_i_Pipe, at_i_Pipe, fn_i_Pipe, kc_i_Pipe⟩, G_i_Pipe, (F_i_Pipe.kbinds (ps := ["self", "room"]) (ks := ["room"]) (g := k1) d_i_Pipe rfl (fun _ _ _ _ _ _ us ws hl => (match us, ws, hl with | [_], [_], _ => ⟨_, rfl, rfl⟩ | [], _, h => nomatch h | [_], [], h => nomatch h | [_], _ :: _ :: _, h => nomatch h | _ :: _ :: _, _, h => nomatch h)) Vals.k1)⟩
  have GMXPipe_1 : MakX l.prog w K mg base 3 "Pipe" C_Pipe [] (dP []) (spMkPX C_Pipe C_NoChip) := ⟨PySem.W.mg_of X G a_Pipe, f_i_Pipe, _, _, _, ⟨mk_i_Pipe, at_i_Pipe, fn_i_Pipe, kc_i_Pipe⟩, G_i_Pipe, (F_i_Pipe.kbinds (ps := ["self", "room"]) (ks := []) (g := dP []) d_i_Pipe rfl (fun _ _ _ _ _ _ us ws hl => (by have hl' : us.length = 2 := (by have h := hl; unfold dP at h; rw [List.length_append] at h; have h2 : (["self", "room"] : List Str).length = 2 := rfl; simp only [List.length_cons, List.length_nil] at h; omega); exact (by apply ln2 us hl'; intro _ _; exact ⟨_, rfl, rfl⟩))) (Vals.dP (show Vals ([] : List V) ([] : List Value) from .nil)))⟩
  have G_i_Latch : FnOk l.prog w K mg base (CX1 l.prog w) 3 f_i_Latch _ ["self", "word"] (spMk1X C_Latch C_NoChip) := okLatch___init__ (C := C_Latch) F_i_Latch T cl_Latch (PySem.W.mg_of X G a_NoChip) xk C_is_word CL_Chip___init__
  have GMXLatch_word : MakX l.prog w K mg base 3 "Latch" C_Latch ["word"] k1 (spMk1X C_Latch C_NoChip) := ⟨PySem.W.mg_of X G a_Latch, f_i_Latch, _, _, _, ⟨mk_i_Latch, at_i_Latch, fn_i_Latch, kc_i_Latch⟩, G_i_Latch, (F_i_Latch.kbinds (ps := ["self", "word"]) (ks := ["word"]) (g := k1) d_i_Latch rfl (fun _ _ _ _ _ _ us ws hl => (match us, ws, hl with | [_], [_], _ => ⟨_, rfl, rfl⟩ | [], _, h => nomatch h | [_], [], h => nomatch h | [_], _ :: _ :: _, h => nomatch h | _ :: _ :: _, _, h => nomatch h)) Vals.k1)⟩
  have GMXLatch_1 : MakX l.prog w K mg base 3 "Latch" C_Latch [] (dP []) (spMk1X C_Latch C_NoChip) := ⟨PySem.W.mg_of X G a_Latch, f_i_Latch, _, _, _, ⟨mk_i_Latch, at_i_Latch, fn_i_Latch, kc_i_Latch⟩, G_i_Latch, (F_i_Latch.kbinds (ps := ["self", "word"]) (ks := []) (g := dP []) d_i_Latch rfl (fun _ _ _ _ _ _ us ws hl => (by have hl' : us.length = 2 := (by have h := hl; unfold dP at h; rw [List.length_append] at h; have h2 : (["self", "word"] : List Str).length = 2 := rfl; simp only [List.length_cons, List.length_nil] at h; omega); exact (by apply ln2 us hl'; intro _ _; exact ⟨_, rfl, rfl⟩))) (Vals.dP (show Vals ([] : List V) ([] : List Value) from .nil)))⟩
  have G_i_Meter : FnOk l.prog w K mg base (CX1 l.prog w) 3 f_i_Meter _ ["self", "word"] (spMk1X C_Meter C_NoChip) := okMeter___init__ (C := C_Meter) F_i_Meter T cl_Meter (PySem.W.mg_of X G a_NoChip) xk C_is_word CL_Chip___init__
  have GMXMeter_word : MakX l.prog w K mg base 3 "Meter" C_Meter ["word"] k1 (spMk1X C_Meter C_NoChip) := ⟨PySem.W.mg_of X G a_Meter, f_i_Meter, _, _, _, ⟨mk_i_Meter, at_i_Meter, fn_i_Meter, kc_i_Meter⟩, G_i_Meter, (F_i_Meter.kbinds (ps := ["self", "word"]) (ks := ["word"]) (g := k1) d_i_Meter rfl (fun _ _ _ _ _ _ us ws hl => (match us, ws, hl with | [_], [_], _ => ⟨_, rfl, rfl⟩ | [], _, h => nomatch h | [_], [], h => nomatch h | [_], _ :: _ :: _, h => nomatch h | _ :: _ :: _, _, h => nomatch h)) Vals.k1)⟩
  have GMXMeter_1 : MakX l.prog w K mg base 3 "Meter" C_Meter [] (dP []) (spMk1X C_Meter C_NoChip) := ⟨PySem.W.mg_of X G a_Meter, f_i_Meter, _, _, _, ⟨mk_i_Meter, at_i_Meter, fn_i_Meter, kc_i_Meter⟩, G_i_Meter, (F_i_Meter.kbinds (ps := ["self", "word"]) (ks := []) (g := dP []) d_i_Meter rfl (fun _ _ _ _ _ _ us ws hl => (by have hl' : us.length = 2 := (by have h := hl; unfold dP at h; rw [List.length_append] at h; have h2 : (["self", "word"] : List Str).length = 2 := rfl; simp only [List.length_cons, List.length_nil] at h; omega); exact (by apply ln2 us hl'; intro _ _; exact ⟨_, rfl, rfl⟩))) (Vals.dP (show Vals ([] : List V) ([] : List Value) from .nil)))⟩
  have G__law_bag : FnOk l.prog w K mg base CX0 1 f__law_bag _ ["seed", "place"] spBag := ok_law_bag F__law_bag T
  have C__law_bag : Cal l.prog w K mg base 1 "_law_bag" ["seed", "place"] spBag := ⟨f__law_bag, _, G__law_bag, PySem.W.mg_of X G a0__law_bag, k__law_bag, b__law_bag⟩
  have G__law_draw : FnOk l.prog w K mg base CX0 1 f__law_draw _ ["bag", "many"] spDraw := ok_law_draw F__law_draw T
  have C__law_draw : Cal l.prog w K mg base 1 "_law_draw" ["bag", "many"] spDraw := ⟨f__law_draw, _, G__law_draw, PySem.W.mg_of X G a0__law_draw, k__law_draw, b__law_draw⟩
  have G_alike_no : Cal l.prog w K mg base 0 "_law_alike" ["found", "due"] (fun _ _ _ _ => False) := ⟨f__law_alike, _, ⟨fun _ _ _ _ h => h.elim, fun _ _ _ _ _ _ _ _ _ _ _ _ _ h => h.elim⟩, PySem.W.mg_of X G a0__law_alike, k__law_alike, b__law_alike⟩
  have C__law_alike0 : Cal l.prog w K mg base 1 "_law_alike" ["found", "due"] (spAlike 0) := ⟨f__law_alike, _, ok_law_alike F__law_alike T G_alike_no (fun k e => by cases e <;> rfl), PySem.W.mg_of X G a0__law_alike, k__law_alike, b__law_alike⟩
  have C__law_alike1 : Cal l.prog w K mg base 2 "_law_alike" ["found", "due"] (spAlike 1) := ⟨f__law_alike, _, ok_law_alike F__law_alike T C__law_alike0 (fun k e => by cases e <;> rfl), PySem.W.mg_of X G a0__law_alike, k__law_alike, b__law_alike⟩
  have G__law_big : FnOk l.prog w K mg base CX0 2 f__law_big _ ["bag"] spBig := ok_law_big F__law_big T C__law_draw
  have C__law_big : Cal l.prog w K mg base 2 "_law_big" ["bag"] spBig := ⟨f__law_big, _, G__law_big, PySem.W.mg_of X G a0__law_big, k__law_big, b__law_big⟩
  have G__law_near : FnOk l.prog w K mg base CX0 3 f__law_near _ ["bag", "most"] spNearC := ok_law_near F__law_near T C__law_draw C__law_big
  have C__law_near : Cal l.prog w K mg base 3 "_law_near" ["bag", "most"] spNearC := ⟨f__law_near, _, G__law_near, PySem.W.mg_of X G a0__law_near, k__law_near, b__law_near⟩
  have G__law_words : FnOk l.prog w K mg base CX0 4 f__law_words _ ["bag"] spWordsC := ok_law_words F__law_words T C__law_draw C__law_near
  have C__law_words : Cal l.prog w K mg base 4 "_law_words" ["bag"] spWordsC := ⟨f__law_words, _, G__law_words, PySem.W.mg_of X G a0__law_words, k__law_words, b__law_words⟩
  have G__law_wanted : FnOk l.prog w K mg base CX0 5 f__law_wanted _ ["bag"] spWanted := ok_law_wanted F__law_wanted T C__law_draw C__law_near C__law_words
  have C__law_wanted : Cal l.prog w K mg base 5 "_law_wanted" ["bag"] spWanted := ⟨f__law_wanted, _, G__law_wanted, PySem.W.mg_of X G a0__law_wanted, k__law_wanted, b__law_wanted⟩
  have G__law_only : FnOk l.prog w K mg base CX0 1 f__law_only _ ["due"] spOnly := ok_law_only F__law_only T
  have C__law_only : Cal l.prog w K mg base 1 "_law_only" ["due"] spOnly := ⟨f__law_only, _, G__law_only, PySem.W.mg_of X G a0__law_only, k__law_only, b__law_only⟩
  have GX__law_made : FnOk l.prog w K mg base (CX1 l.prog w) 5 f__law_made _ ["kind", "many", "row", "named"] (spMade21 (csOf C_Store C_Fixed C_Latch C_Meter C_Pipe) C_NoChip) := ok_law_made (cs := (csOf C_Store C_Fixed C_Latch C_Meter C_Pipe)) F__law_made T GMXStore_cells_word GMXStore_2 GMXFixed_words GMXFixed_1 GMXPipe_room GMXPipe_1 GMXLatch_word GMXLatch_1 GMXMeter_word GMXMeter_1
  have CX__law_made : CalX l.prog w K mg base 5 "_law_made" ["kind", "many", "row", "named"] (spMade21 (csOf C_Store C_Fixed C_Latch C_Meter C_Pipe) C_NoChip) := ⟨f__law_made, _, GX__law_made, PySem.W.mg_of X G a0__law_made, k__law_made, b__law_made⟩
  have G__law_made : FnOk l.prog w K mg base CX0 5 f__law_made _ ["kind", "many", "row", "named"] (fun vs H Q _ => (spMade21 (csOf C_Store C_Fixed C_Latch C_Meter C_Pipe) C_NoChip) vs H Q fun _ _ _ => False) := GX__law_made.calm
  have C__law_made : Cal l.prog w K mg base 5 "_law_made" ["kind", "many", "row", "named"] (fun vs H Q _ => (spMade21 (csOf C_Store C_Fixed C_Latch C_Meter C_Pipe) C_NoChip) vs H Q fun _ _ _ => False) := ⟨f__law_made, _, G__law_made, PySem.W.mg_of X G a0__law_made, k__law_made, b__law_made⟩
  have G__law_asked : FnOk l.prog w K mg base CX0 6 f__law_asked _ ["kind", "many", "row", "named"] (spAsked21 (csOf C_Store C_Fixed C_Latch C_Meter C_Pipe)) := ok_law_asked (cs := (csOf C_Store C_Fixed C_Latch C_Meter C_Pipe)) F__law_asked T (PySem.W.mg_none_of X G zV) CX__law_made (PySem.W.mg_of X G a_BusError) (PySem.W.mg_of X G a_NoChip) (PySem.W.mg_of X G a_TooMany) (PySem.W.mg_of X G a_NoCell) (PySem.W.mg_of X G a_NoMap) (PySem.W.mg_of X G a_NoWatch) (PySem.W.mg_of X G a_NoMover) (PySem.W.mg_of X G a_NoText) (PySem.W.mg_of X G a_NoWord) (PySem.W.mg_of X G a_NoAddress) (PySem.W.mg_of X G a_Clash) (PySem.W.mg_of X G a_BadRow) xc m1_ m3_ m2_ j1_ j2_ j3_ j4_ j5_ j6_ j7_ j8_ j9_ j10_
  have C__law_asked : Cal l.prog w K mg base 6 "_law_asked" ["kind", "many", "row", "named"] (spAsked21 (csOf C_Store C_Fixed C_Latch C_Meter C_Pipe)) := ⟨f__law_asked, _, G__law_asked, PySem.W.mg_of X G a0__law_asked, k__law_asked, b__law_asked⟩
  have MS : ∀ kd, kd < 5 → Mth l.prog w K mg base 1 ((csOf C_Store C_Fixed C_Latch C_Meter C_Pipe) kd) "state" [] (fun vs _ => vs) (spState ((csOf C_Store C_Fixed C_Latch C_Meter C_Pipe) kd)) := fun kd h => by
    rcases (show kd = 0 ∨ kd = 1 ∨ kd = 2 ∨ kd = 3 ∨ kd = 4 by omega) with rfl | rfl | rfl | rfl | rfl
    · exact M_Store_state
    · exact M_Fixed_state
    · exact M_Latch_state
    · exact M_Meter_state
    · exact M_Pipe_state
  have ML : ∀ kd, kd < 5 → Mth l.prog w K mg base 1 ((csOf C_Store C_Fixed C_Latch C_Meter C_Pipe) kd) "__len__" [] (fun vs _ => vs) (spLen ((csOf C_Store C_Fixed C_Latch C_Meter C_Pipe) kd) (lenK kd)) := fun kd h => by
    rcases (show kd = 0 ∨ kd = 1 ∨ kd = 2 ∨ kd = 3 ∨ kd = 4 by omega) with rfl | rfl | rfl | rfl | rfl
    · exact M_Store___len__
    · exact M_Fixed___len__
    · exact M_Latch___len__
    · exact M_Meter___len__
    · exact M_Pipe___len__
  have G__law_good : FnOk l.prog w K mg base CX0 1 f__law_good _ ["kind", "many", "row"] spGood := ok_law_good F__law_good T
  have C__law_good : Cal l.prog w K mg base 1 "_law_good" ["kind", "many", "row"] spGood := ⟨f__law_good, _, G__law_good, PySem.W.mg_of X G a0__law_good, k__law_good, b__law_good⟩
  have G__law_stands : FnOk l.prog w K mg base CX0 3 f__law_stands _ ["chip", "kind", "many", "row"] (spStands (csOf C_Store C_Fixed C_Latch C_Meter C_Pipe)) := ok_law_stands (cs := (csOf C_Store C_Fixed C_Latch C_Meter C_Pipe)) F__law_stands T C__law_alike1 MS ML
  have C__law_stands : Cal l.prog w K mg base 3 "_law_stands" ["chip", "kind", "many", "row"] (spStands (csOf C_Store C_Fixed C_Latch C_Meter C_Pipe)) := ⟨f__law_stands, _, G__law_stands, PySem.W.mg_of X G a0__law_stands, k__law_stands, b__law_stands⟩
  exact oklaw F_law (cs := (csOf C_Store C_Fixed C_Latch C_Meter C_Pipe)) T C__law_bag C__law_draw C__law_wanted C__law_asked C__law_good C__law_only C__law_stands
theorem walk {l : PySem.W.OpenLaw} {q : Program} {loose : List Str} {XP : (Str → Option Value) → Heap → Prop} {YP : World → Heap → Prop} {d : DefRec} {K : Params → PySem.W.Frag} (hn : l.most = some 63) (hdf : d.params.defaults = [])
    (hY : ∀ (w : World) (h : Heap), YP w h → (K w.params).In h)
    (F : ∀ (w : World) (mg : Str → Option Value) (fa : Addr) (h : Heap), (K w.params).In h → h.Ns mainGlobals mg → mg d.name = some (.ref fa) →
      ∃ fd : FuncData, (∀ (s : Shared) (u : Value), BindsTo s fd ⟨[u], []⟩ [("script", u)]) ∧ ∀ base : Heap, (K w.params).In base → base.Ns mainGlobals mg → FnOk l.prog w (K w.params) mg base CX0 7 fa fd ["script"] (spLaw (K w.params))) :
    PySem.W.WalkO q loose XP YP l.row.toRowW d [] (fun f vs => PySem.call f vs) :=
  L2.walk_ofB (n := 63) (k := 7) (x := "script") (CX := fun _ => CX0) (sp := fun w => spLaw (K w.params)) hn (by decide) hdf ⟨rfl, by decide, by decide⟩ hY F (fun _ _ a ns hl hb _ hS => ⟨a, ns, rfl, hS, hl, hb, fun _ => rfl⟩) fun _ _ _ _ _ z => z
end Cb
set_option maxRecDepth 1000000
set_option maxHeartbeats 0
namespace Hd
open PySem PySem.W
def vw : Program := PySem.W.view PySem.Challenge.pw_chipbus_k21_no_such_chip [1, 2, 3, 4, 5, 6, 7, 8, 9, 10, 11, 12, 14, 15, 16, 18, 19, 20, 21, 23, 24, 25, 26, 27, 28, 29, 30, 32, 33, 34, 35, 36, 37, 38, 39, 40, 41, 42, 43, 44, 45, 46]
def ls : List Str := ["Store", "Latch", "Meter", "Pipe"]
theorem h1 : SeenOk PySem.Challenge.rw_chipbus_k21_no_such_chip.row.prog vw ls (fun s => xlAt vw [] s && recOk (RowW.records (OpenRow.toRowW (OpenLaw.row PySem.Challenge.rw_chipbus_k21_no_such_chip))) s) 10714 true := by
  intro w os
  kernel_rfl
end Hd
open PySem PySem.W in
local macro_rules | `(tactic| o_head $H) => `(tactic| (
  refine holds_open (q := Hd.vw) (loose := Hd.ls) (Xt := fun s => xlAt Hd.vw [] s && recOk (RowW.records (OpenRow.toRowW (OpenLaw.row PySem.Challenge.rw_chipbus_k21_no_such_chip))) s) (XP := XL Hd.vw []) (Yf := Hook.obs $H) (Ya := Hook.val $H) (YP := Hook.says $H) (N := 10714) ?hl (Hook.of $H) (Hook.keeps $H) (fun s e => xl_of s (Bool.and_eq_true_iff.mp e).1) XL.keeps (by rfl) (by rfl) (by rfl) (fun s e => recFacts_of (Bool.and_eq_true_iff.mp e).2) (by rfl) (by first | assumption | decide +kernel) (by decide +kernel) ⟨rfl, rfl, rfl, rfl, rfl, by decide +kernel⟩ ?hw ?hc
  (case hl => refine Hd.left_of Hd.h1 (by kernel_rfl) (fun s => by kernel_rfl) rfl ?h2; (case h2 => (intro w os; kernel_rfl)))))
open PySem PySem.W PyProof.Rows
set_option maxRecDepth 1000000 in
set_option maxHeartbeats 0 in
theorem PySem.Challenge.cw_chipbus_k21_no_such_chip_holds : PySem.Challenge.rw_chipbus_k21_no_such_chip.Holds := by
  w_on; o_law; k_head; (case hw => w_witness2)
  k_fill
  refine Cb.walk (l := PySem.Challenge.rw_chipbus_k21_no_such_chip) rfl rfl (fun w h Y => PySem.W.kIn_of Y) ?F
  case F =>
    intro w mg fa h KX G hmg
    refine' Cb.all_mk KX G hmg ?a_NoChip ?a_BusError ?a_TooMany ?a_NoCell ?a_NoMap ?a_NoWatch ?a_NoMover ?a_NoText ?a_NoWord ?a_NoAddress ?a_Clash ?a_BadRow ?zV ?xl ?xn ?xs ?xi ?yl ?yn ?ys ?yi ?c1_ ?c2_ ?c3_ ?c4_ ?c5_ ?m1_ ?m2_ ?m3_ ?j1_ ?j2_ ?j3_ ?j4_ ?j5_ ?j6_ ?j7_ ?j8_ ?j9_ ?j10_ ?a0_is_number ?l_is_number ?c_is_number ?k_is_number ?a0_is_word ?l_is_word ?c_is_word ?k_is_word ?a_Chip ?sg_cm_Chip___init__ ?rd_cm_Chip___init__ ?fc_cm_Chip___init__ ?l_cm_Chip___init__ ?c_cm_Chip___init__ ?k_cm_Chip___init__ ?a0_by_figures ?l_by_figures ?c_by_figures ?k_by_figures ?a0_two_figures ?l_two_figures ?c_two_figures ?k_two_figures ?a_Store ?pg_Store ?hd_Store ?po_Store ?sa_Store ?nhead_Store ?nheld_Store ?nroom_Store ?at_m_Store___len__ ?fn_m_Store___len__ ?l_m_Store___len__ ?c_m_Store___len__ ?k_m_Store___len__ ?at_m_Store_state ?fn_m_Store_state ?l_m_Store_state ?c_m_Store_state ?k_m_Store_state ?a_Fixed ?pg_Fixed ?hd_Fixed ?po_Fixed ?sa_Fixed ?nhead_Fixed ?nheld_Fixed ?nroom_Fixed ?at_m_Fixed___len__ ?fn_m_Fixed___len__ ?l_m_Fixed___len__ ?c_m_Fixed___len__ ?k_m_Fixed___len__ ?at_m_Fixed_state ?fn_m_Fixed_state ?l_m_Fixed_state ?c_m_Fixed_state ?k_m_Fixed_state ?a_Latch ?pg_Latch ?hd_Latch ?po_Latch ?sa_Latch ?nhead_Latch ?nheld_Latch ?nroom_Latch ?at_m_Latch___len__ ?fn_m_Latch___len__ ?l_m_Latch___len__ ?c_m_Latch___len__ ?k_m_Latch___len__ ?at_m_Latch_state ?fn_m_Latch_state ?l_m_Latch_state ?c_m_Latch_state ?k_m_Latch_state ?a_Meter ?pg_Meter ?hd_Meter ?po_Meter ?sa_Meter ?nhead_Meter ?nheld_Meter ?nroom_Meter ?at_m_Meter___len__ ?fn_m_Meter___len__ ?l_m_Meter___len__ ?c_m_Meter___len__ ?k_m_Meter___len__ ?at_m_Meter_state ?fn_m_Meter_state ?l_m_Meter_state ?c_m_Meter_state ?k_m_Meter_state ?a_Pipe ?pg_Pipe ?hd_Pipe ?po_Pipe ?sa_Pipe ?nhead_Pipe ?nheld_Pipe ?nroom_Pipe ?at_m_Pipe___len__ ?fn_m_Pipe___len__ ?l_m_Pipe___len__ ?c_m_Pipe___len__ ?k_m_Pipe___len__ ?at_m_Pipe_state ?fn_m_Pipe_state ?l_m_Pipe_state ?c_m_Pipe_state ?k_m_Pipe_state ?mk_i_Store ?kc_i_Store ?at_i_Store ?fn_i_Store ?l_i_Store ?c_i_Store ?k_i_Store ?d_i_Store ?mk_i_Fixed ?kc_i_Fixed ?at_i_Fixed ?fn_i_Fixed ?l_i_Fixed ?c_i_Fixed ?k_i_Fixed ?mk_i_Pipe ?kc_i_Pipe ?at_i_Pipe ?fn_i_Pipe ?l_i_Pipe ?c_i_Pipe ?k_i_Pipe ?d_i_Pipe ?mk_i_Latch ?kc_i_Latch ?at_i_Latch ?fn_i_Latch ?l_i_Latch ?c_i_Latch ?k_i_Latch ?d_i_Latch ?mk_i_Meter ?kc_i_Meter ?at_i_Meter ?fn_i_Meter ?l_i_Meter ?c_i_Meter ?k_i_Meter ?d_i_Meter ?a0__law_bag ?l__law_bag ?c__law_bag ?k__law_bag ?a0__law_draw ?l__law_draw ?c__law_draw ?k__law_draw ?a0__law_alike ?l__law_alike ?c__law_alike ?k__law_alike ?a0__law_big ?l__law_big ?c__law_big ?k__law_big ?a0__law_near ?l__law_near ?c__law_near ?k__law_near ?a0__law_words ?l__law_words ?c__law_words ?k__law_words ?a0__law_wanted ?l__law_wanted ?c__law_wanted ?k__law_wanted ?a0__law_only ?l__law_only ?c__law_only ?k__law_only ?a0__law_made ?l__law_made ?c__law_made ?k__law_made ?a0__law_asked ?l__law_asked ?c__law_asked ?k__law_asked ?a0__law_good ?l__law_good ?c__law_good ?k__law_good ?a0__law_stands ?l__law_stands ?c__law_stands ?k__law_stands ?a0_law ?l_law ?c_law ?k_law ?z_LAST_WORD ?z_MOST_CELLS ?z_MOST_ROOM ?z_SIXTEEN ?z_len ?z_sum ?z_all ?z_max ?z_min ?z_int ?z_bool ?z_isinstance ?z_range ?z_enumerate ?z_zip ?z_str ?z_tuple ?z_list
    (case a_NoChip => k_is)
    (case a_BusError => k_is)
    (case a_TooMany => k_is)
    (case a_NoCell => k_is)
    (case a_NoMap => k_is)
    (case a_NoWatch => k_is)
    (case a_NoMover => k_is)
    (case a_NoText => k_is)
    (case a_NoWord => k_is)
    (case a_NoAddress => k_is)
    (case a_Clash => k_is)
    (case a_BadRow => k_is)
    (case zV => k_is)
    (case xl => k_is)
    (case xn => k_is)
    (case xs => rfl)
    (case xi => rfl)
    (case yl => k_is)
    (case yn => k_is)
    (case ys => rfl)
    (case yi => rfl)
    (case c1_ => k_is)
    (case c2_ => k_is)
    (case c3_ => rfl)
    (case c4_ => k_is)
    (case c5_ => k_is)
    (case m1_ => rfl)
    (case m2_ => rfl)
    (case m3_ => rfl)
    (case j1_ => rfl)
    (case j2_ => rfl)
    (case j3_ => rfl)
    (case j4_ => rfl)
    (case j5_ => rfl)
    (case j6_ => rfl)
    (case j7_ => rfl)
    (case j8_ => rfl)
    (case j9_ => rfl)
    (case j10_ => rfl)
    (case a0_is_number => k_is)
    (case l_is_number => k_is)
    (case c_is_number => k_is)
    (case k_is_number => k_is)
    (case a0_is_word => k_is)
    (case l_is_word => k_is)
    (case c_is_word => k_is)
    (case k_is_word => k_is)
    (case a_Chip => k_is)
    (case sg_cm_Chip___init__ => k_is)
    (case rd_cm_Chip___init__ => k_is)
    (case fc_cm_Chip___init__ => k_is)
    (case l_cm_Chip___init__ => k_is)
    (case c_cm_Chip___init__ => k_is)
    (case k_cm_Chip___init__ => k_is)
    (case a0_by_figures => k_is)
    (case l_by_figures => k_is)
    (case c_by_figures => k_is)
    (case k_by_figures => k_is)
    (case a0_two_figures => k_is)
    (case l_two_figures => k_is)
    (case c_two_figures => k_is)
    (case k_two_figures => k_is)
    (case a_Store => k_is)
    (case pg_Store => k_is)
    (case hd_Store => k_is)
    (case po_Store => k_is)
    (case sa_Store => k_is)
    (case nhead_Store => k_is)
    (case nheld_Store => k_is)
    (case nroom_Store => k_is)
    (case at_m_Store___len__ => k_is)
    (case fn_m_Store___len__ => k_is)
    (case l_m_Store___len__ => k_is)
    (case c_m_Store___len__ => k_is)
    (case k_m_Store___len__ => k_is)
    (case at_m_Store_state => k_is)
    (case fn_m_Store_state => k_is)
    (case l_m_Store_state => k_is)
    (case c_m_Store_state => k_is)
    (case k_m_Store_state => k_is)
    (case a_Fixed => k_is)
    (case pg_Fixed => k_is)
    (case hd_Fixed => k_is)
    (case po_Fixed => k_is)
    (case sa_Fixed => k_is)
    (case nhead_Fixed => k_is)
    (case nheld_Fixed => k_is)
    (case nroom_Fixed => k_is)
    (case at_m_Fixed___len__ => k_is)
    (case fn_m_Fixed___len__ => k_is)
    (case l_m_Fixed___len__ => k_is)
    (case c_m_Fixed___len__ => k_is)
    (case k_m_Fixed___len__ => k_is)
    (case at_m_Fixed_state => k_is)
    (case fn_m_Fixed_state => k_is)
    (case l_m_Fixed_state => k_is)
    (case c_m_Fixed_state => k_is)
    (case k_m_Fixed_state => k_is)
    (case a_Latch => k_is)
    (case pg_Latch => k_is)
    (case hd_Latch => k_is)
    (case po_Latch => k_is)
    (case sa_Latch => k_is)
    (case nhead_Latch => k_is)
    (case nheld_Latch => k_is)
    (case nroom_Latch => k_is)
    (case at_m_Latch___len__ => k_is)
    (case fn_m_Latch___len__ => k_is)
    (case l_m_Latch___len__ => k_is)
    (case c_m_Latch___len__ => k_is)
    (case k_m_Latch___len__ => k_is)
    (case at_m_Latch_state => k_is)
    (case fn_m_Latch_state => k_is)
    (case l_m_Latch_state => k_is)
    (case c_m_Latch_state => k_is)
    (case k_m_Latch_state => k_is)
    (case a_Meter => k_is)
    (case pg_Meter => k_is)
    (case hd_Meter => k_is)
    (case po_Meter => k_is)
    (case sa_Meter => k_is)
    (case nhead_Meter => k_is)
    (case nheld_Meter => k_is)
    (case nroom_Meter => k_is)
    (case at_m_Meter___len__ => k_is)
    (case fn_m_Meter___len__ => k_is)
    (case l_m_Meter___len__ => k_is)
    (case c_m_Meter___len__ => k_is)
    (case k_m_Meter___len__ => k_is)
    (case at_m_Meter_state => k_is)
    (case fn_m_Meter_state => k_is)
    (case l_m_Meter_state => k_is)
    (case c_m_Meter_state => k_is)
    (case k_m_Meter_state => k_is)
    (case a_Pipe => k_is)
    (case pg_Pipe => k_is)
    (case hd_Pipe => k_is)
    (case po_Pipe => k_is)
    (case sa_Pipe => k_is)
    (case nhead_Pipe => k_is)
    (case nheld_Pipe => k_is)
    (case nroom_Pipe => k_is)
    (case at_m_Pipe___len__ => k_is)
    (case fn_m_Pipe___len__ => k_is)
    (case l_m_Pipe___len__ => k_is)
    (case c_m_Pipe___len__ => k_is)
    (case k_m_Pipe___len__ => k_is)
    (case at_m_Pipe_state => k_is)
    (case fn_m_Pipe_state => k_is)
    (case l_m_Pipe_state => k_is)
    (case c_m_Pipe_state => k_is)
    (case k_m_Pipe_state => k_is)
    (case mk_i_Store => k_is)
    (case kc_i_Store => k_is)
    (case at_i_Store => k_is)
    (case fn_i_Store => k_is)
    (case l_i_Store => k_is)
    (case c_i_Store => k_is)
    (case k_i_Store => k_is)
    (case d_i_Store => k_is)
    (case mk_i_Fixed => k_is)
    (case kc_i_Fixed => k_is)
    (case at_i_Fixed => k_is)
    (case fn_i_Fixed => k_is)
    (case l_i_Fixed => k_is)
    (case c_i_Fixed => k_is)
    (case k_i_Fixed => k_is)
    (case mk_i_Pipe => k_is)
    (case kc_i_Pipe => k_is)
    (case at_i_Pipe => k_is)
    (case fn_i_Pipe => k_is)
    (case l_i_Pipe => k_is)
    (case c_i_Pipe => k_is)
    (case k_i_Pipe => k_is)
    (case d_i_Pipe => k_is)
    (case mk_i_Latch => k_is)
    (case kc_i_Latch => k_is)
    (case at_i_Latch => k_is)
    (case fn_i_Latch => k_is)
    (case l_i_Latch => k_is)
    (case c_i_Latch => k_is)
    (case k_i_Latch => k_is)
    (case d_i_Latch => k_is)
    (case mk_i_Meter => k_is)
    (case kc_i_Meter => k_is)
    (case at_i_Meter => k_is)
    (case fn_i_Meter => k_is)
    (case l_i_Meter => k_is)
    (case c_i_Meter => k_is)
    (case k_i_Meter => k_is)
    (case d_i_Meter => k_is)
    (case a0__law_bag => k_is)
    (case l__law_bag => k_is)
    (case c__law_bag => k_is)
    (case k__law_bag => k_is)
    (case a0__law_draw => k_is)
    (case l__law_draw => k_is)
    (case c__law_draw => k_is)
    (case k__law_draw => k_is)
    (case a0__law_alike => k_is)
    (case l__law_alike => k_is)
    (case c__law_alike => k_is)
    (case k__law_alike => k_is)
    (case a0__law_big => k_is)
    (case l__law_big => k_is)
    (case c__law_big => k_is)
    (case k__law_big => k_is)
    (case a0__law_near => k_is)
    (case l__law_near => k_is)
    (case c__law_near => k_is)
    (case k__law_near => k_is)
    (case a0__law_words => k_is)
    (case l__law_words => k_is)
    (case c__law_words => k_is)
    (case k__law_words => k_is)
    (case a0__law_wanted => k_is)
    (case l__law_wanted => k_is)
    (case c__law_wanted => k_is)
    (case k__law_wanted => k_is)
    (case a0__law_only => k_is)
    (case l__law_only => k_is)
    (case c__law_only => k_is)
    (case k__law_only => k_is)
    (case a0__law_made => k_is)
    (case l__law_made => k_is)
    (case c__law_made => k_is)
    (case k__law_made => k_is)
    (case a0__law_asked => k_is)
    (case l__law_asked => k_is)
    (case c__law_asked => k_is)
    (case k__law_asked => k_is)
    (case a0__law_good => k_is)
    (case l__law_good => k_is)
    (case c__law_good => k_is)
    (case k__law_good => k_is)
    (case a0__law_stands => k_is)
    (case l__law_stands => k_is)
    (case c__law_stands => k_is)
    (case k__law_stands => k_is)
    (case a0_law => k_is)
    (case l_law => k_is)
    (case c_law => k_is)
    (case k_law => k_is)
    (case z_LAST_WORD => k_is)
    (case z_MOST_CELLS => k_is)
    (case z_MOST_ROOM => k_is)
    (case z_SIXTEEN => k_is)
    (case z_len => k_is)
    (case z_sum => k_is)
    (case z_all => k_is)
    (case z_max => k_is)
    (case z_min => k_is)
    (case z_int => k_is)
    (case z_bool => k_is)
    (case z_isinstance => k_is)
    (case z_range => k_is)
    (case z_enumerate => k_is)
    (case z_zip => k_is)
    (case z_str => k_is)
    (case z_tuple => k_is)
    (case z_list => k_is)
#print axioms PySem.Challenge.cw_chipbus_k21_no_such_chip_holds
