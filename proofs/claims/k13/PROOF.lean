import PyProof.Rows.All
import Wide.All
import OpenK.AllK
import Wide.FinOn
import Lean
import PyProof.EqAt
import PyProof.EqKinds
import PyProof.TupleCall
import PyProof.NeKinds
import PyProof.StationsW
import PyProof.Rows.Own
import PyProof.RulesDel
import PyProof.RulesAs
import PyProof.ExcBaseAll.ValueError
import KE.KTryMore
import PyProof.ExcArgs
import KE.KIsAll
import PyProof.ListRange
import PyProof.Rows.RuleM_int
import PyProof.Draws
import PyProof.EnumMake
import KE.KDictSum
import KE.KItemsList
import KE.KSortTup
import PyProof.MinMaxWalk
import PyProof.WalkInts
import PyProof.CallTypeRange
import KE.KEqDict
import PySem.Challenge.RW_chipbus_k13_whole_one_or_none
section
set_option Elab.async false
set_option linter.all false
set_option maxRecDepth 100000
/-! THE HAND LAYER, for ints, bools, texts, own classes, LISTS and tuples (index, slices, in, append, pop ..), calls, loops. Paste it whole ahead of your own text; what your proof does not reach may be deleted. -/
namespace L2
open PySem PySem.Spec PyProof.Rows

/-- a key: an int or a str -/
abbrev Key := Sum Int Str
def keyIs : Key → Value → Bool
  | .inl k, v => Value.isInt k v
  | .inr x, v => Value.isStrOf x v
def keyH (w : World) : Key → Int
  | .inl k => hashInt k
  | .inr x => hashStr w x
theorem keyIs_shape : ∀ {k : Key} {v : Value}, keyIs k v = true → (∃ i t, k = Sum.inl i ∧ v = Value.int i t) ∨ (∃ x t, k = Sum.inr x ∧ v = Value.str x t)
  | .inl i, v, h => by
    obtain ⟨t, e⟩ := Value.isInt_shape (k := i) (v := v) h
    exact .inl ⟨i, t, rfl, e⟩
  | .inr x, v, h => by
    obtain ⟨t, e⟩ := Value.isStrOf_shape (x := x) (v := v) h
    exact .inr ⟨x, t, rfl, e⟩
theorem keyIs_int (i : Int) (t : Tok) : keyIs (.inl i) (.int i t) = true := by simp [keyIs, Value.isInt]
theorem keyIs_str (x : Str) (t : Tok) : keyIs (.inr x) (.str x t) = true := by simp [keyIs, Value.isStrOf]
theorem key_ll (a b : Int) : decide ((Sum.inl a : Key) = Sum.inl b) = (a == b) := by
  by_cases e : a = b
  · subst e; simp
  · have h : ¬ (Sum.inl a : Key) = Sum.inl b := fun q => e (Sum.inl.inj q)
    rw [decide_eq_false h]
    exact (beq_eq_false_iff_ne.mpr e).symm
theorem key_rr (a b : Str) : decide ((Sum.inr a : Key) = Sum.inr b) = decide (a = b) := by
  by_cases e : a = b
  · subst e; simp
  · have h : ¬ (Sum.inr a : Key) = Sum.inr b := fun q => e (Sum.inr.inj q)
    rw [decide_eq_false h, decide_eq_false e]
theorem key_lr (a : Int) (b : Str) : decide ((Sum.inl a : Key) = Sum.inr b) = false := decide_eq_false (fun q => nomatch q)
theorem key_rl (a : Str) (b : Int) : decide ((Sum.inr a : Key) = Sum.inl b) = false := decide_eq_false (fun q => nomatch q)

def mixKind (prog : Program) (w : World) : PySem.KeyKind prog w Key where
  is := keyIs
  hash := keyH w
  inj := fun v a b ha hb => by
    rcases keyIs_shape ha with ⟨i, t, rfl, rfl⟩ | ⟨x, t, rfl, rfl⟩
    · rcases keyIs_shape hb with ⟨j, u, rfl, e⟩ | ⟨y, u, rfl, e⟩
      · injection e with e1 _; rw [e1]
      · exact nomatch e
    · rcases keyIs_shape hb with ⟨j, u, rfl, e⟩ | ⟨y, u, rfl, e⟩
      · exact nomatch e
      · injection e with e1 _; rw [e1]
  byValue := fun k v h => by
    rcases keyIs_shape h with ⟨i, t, rfl, rfl⟩ | ⟨x, t, rfl, rfl⟩ <;> rfl
  pyHash := fun hv h => by
    rcases keyIs_shape hv with ⟨i, t, rfl, rfl⟩ | ⟨x, t, rfl, rfl⟩
    · exact wpAny_pyHash_int h
    · exact wpAny_pyHash_str h
  eqBool := fun hu hv h => by
    rcases keyIs_shape hu with ⟨i, t, rfl, rfl⟩ | ⟨x, t, rfl, rfl⟩
    · rcases keyIs_shape hv with ⟨j, u, rfl, rfl⟩ | ⟨y, u, rfl, rfl⟩
      · rw [key_ll] at h; exact wpAny_eqBool_int h
      · rw [key_lr] at h; exact SeqAt.EqAt.int_str i t y u _ _ _ _ h
    · rcases keyIs_shape hv with ⟨j, u, rfl, rfl⟩ | ⟨y, u, rfl, rfl⟩
      · rw [key_rl] at h; exact SeqAt.EqAt.str_int x t j u _ _ _ _ h
      · rw [key_rr] at h; exact wpAny_eqBool_str h
  «strs» := fun k x t v h => by
    rcases keyIs_shape h with ⟨i, u, rfl, e⟩ | ⟨y, u, rfl, e⟩
    · exact nomatch e
    · injection e with e1 _
      subst e1
      cases v <;> rfl

theorem mixKind_int (prog : Program) (w : World) (i : Int) (t : Tok) : (mixKind prog w).is (.inl i) (.int i t) = true := keyIs_int i t
theorem mixKind_str (prog : Program) (w : World) (x : Str) (t : Tok) : (mixKind prog w).is (.inr x) (.str x t) = true := keyIs_str x t
end L2

namespace L2
open PySem PySem.Spec PyProof.Rows

/-- a value, without the heap -/
inductive V where
  | non | bl (b : Bool) | int (i : Int) | str (x : Str) | byt (b : Array UInt8) | flt (b : UInt64) | ref (a : Addr) | ty (n : String)
  deriving DecidableEq

def RelV : V → Value → Prop
  | .non, u => u = Value.none
  | .bl b, u => u = Value.bool b
  | .int i, u => ∃ t, u = Value.int i t
  | .str x, u => ∃ t, u = Value.str x t
  | .byt b, u => ∃ t, u = Value.bytes b t
  | .flt b, u => ∃ t, u = Value.float b t
  | .ref a, u => u = Value.ref a
  | .ty n, u => u = Value.type n

abbrev Vals : List V → List Value → Prop := Paired RelV
theorem Vals.length {xs : List V} {us : List Value} (r : Vals xs us) : xs.length = us.length := Paired.length r
theorem Vals.get : ∀ {xs : List V} {us : List Value} {i : Nat} {x : V}, Vals xs us → xs[i]? = some x → ∃ u, us[i]? = some u ∧ RelV x u
  | _, _, _, _, .nil, e => by simp at e
  | _, _, 0, _, .cons r _, e => by simp at e; subst e; exact ⟨_, rfl, r⟩
  | _, _, i + 1, x, .cons _ t, e => by
    obtain ⟨u, h1, h2⟩ := Vals.get (i := i) (x := x) t (by simpa using e)
    exact ⟨u, by simpa using h1, h2⟩
theorem Vals.set {x : V} {u : Value} (r : RelV x u) : ∀ {xs : List V} {us : List Value} (i : Nat), Vals xs us → Vals (xs.set i x) (us.set i u)
  | _, _, _, .nil => .nil
  | _, _, 0, .cons _ t => .cons r t
  | _, _, i + 1, .cons q t => .cons q (Vals.set r i t)
theorem Vals.append : ∀ {xs ys : List V} {us ws : List Value}, Vals xs us → Vals ys ws → Vals (xs ++ ys) (us ++ ws)
  | _, _, _, _, .nil, s => s
  | _, _, _, _, .cons r t, s => .cons r (Vals.append t s)
theorem Vals.take : ∀ {xs : List V} {us : List Value} (n : Nat), Vals xs us → Vals (xs.take n) (us.take n)
  | _, _, 0, _ => .nil
  | _, _, _ + 1, .nil => .nil
  | _, _, n + 1, .cons r t => .cons r (Vals.take n t)
theorem Vals.drop : ∀ {xs : List V} {us : List Value} (n : Nat), Vals xs us → Vals (xs.drop n) (us.drop n)
  | _, _, 0, r => r
  | _, _, _ + 1, .nil => .nil
  | _, _, n + 1, .cons _ t => Vals.drop n t
def RelO : Option V → Option Value → Prop
  | some v, some u => RelV v u
  | none, none => True
  | _, _ => False
def KV {κ : Type} : List (κ × V) → List (κ × Value) → Prop := Paired fun (p : κ × V) (q : κ × Value) => p.1 = q.1 ∧ RelV p.2 q.2

/-- a key of a dict (00_mix): an int or a text -/
def kV : Key → V
  | .inl i => .int i
  | .inr x => .str x

/-- what stands at a tracked address -/
inductive HO where
  /-- a list -/
  | lst (xs : List V)
  /-- a tuple (never changes) -/
  | tup (xs : List V)
  /-- a dict whose keys are ints and texts; one whose keys are tuples of ints and texts (the empty one is both) -/
  | dK (kvs : List (Key × V)) | dT (kvs : List (List Key × V))
  /-- a set of ints: its members, its size -/
  | set (S : Int → Bool) (n : Nat)
  /-- an instance of the class at C, its dict at dx, its attributes -/
  | ins (C dx : Addr) (fs : List (Str × V))
  /-- the dict of the instance at x -/
  | own (x : Addr)
  /-- the dict of an exception -/
  | xd (fs : List (Str × V))
  /-- a bound method, f of x -/
  | met (f x : Addr)
  /-- a range object lo, lo + 1, .. below hi -/
  | rng (lo hi : Int)
  /-- a thing that is known to the object (the script; a dict while a loop walks it): read, never written while it is so -/
  | frz (o : Obj) (u : HO)
  /-- a code object's table -/
  | tbl (ps : Array Value)
  /-- any other thing, by what is true of its one object (a def of one's own: SetO a S n := HO.ext fun h => ..) -/
  | ext (φ : Heap → Prop)

abbrev Hp := Addr → Option HO
def upd (H : Hp) (a : Addr) (o : HO) : Hp := fun b => if b = a then some o else H b
theorem upd_same {H : Hp} {a : Addr} {o : HO} : upd H a o a = some o := by unfold upd; rw [if_pos rfl]
theorem upd_ne {H : Hp} {a b : Addr} {o : HO} (h : b ≠ a) : upd H a o b = H b := by unfold upd; rw [if_neg h]
/-- two objects of different content stand apart -/
theorem ne_of {H : Hp} {a b : Addr} {o u : HO} (h : H a = some o) (h' : H b = some u) (d : o ≠ u) : a ≠ b := by
  intro e; subst e; rw [h] at h'; exact d (Option.some.inj h')
theorem ne_of_none {H : Hp} {a b : Addr} {o : HO} (h : H a = some o) (h' : H b = none) : a ≠ b := by
  intro e; subst e; rw [h] at h'; cases h'

section
variable (P : Program) (w : World)
def ObjOk (H : Hp) (h : Heap) (a : Addr) : HO → Prop
  | .lst xs => xs.length ≤ sizeLine ∧ ∃ (its : List Value) (n : Nat), Vals xs its ∧ h.get? a = some { cls := .type "list", data := .seq its.toArray n }
  | .tup xs => xs.length ≤ sizeLine ∧ ∃ its : List Value, Vals xs its ∧ IsTup h a its.toArray
  | .dK kvs => kvs.length ≤ sizeLine ∧ (a == sysModules) = false ∧ ∃ vs, KV kvs vs ∧ h.DictOf (mixKind P w) a vs
  | .dT kvs => kvs.length ≤ sizeLine ∧ (a == sysModules) = false ∧ ∃ xs : List (List Key × Addr × Value),
      Paired (fun (p : List Key × V) (q : List Key × Addr × Value) => p.1 = q.1 ∧ H q.2.1 = some (.tup (p.1.map kV)) ∧ RelV p.2 q.2.2) kvs xs ∧
      ∃ o es ep, h.get? a = some o ∧ o.ExactDict ∧ o.data = .dict es ep ∧ es.toList = xs.map (entryOfKey (tupleKind (mixKind P w))) ∧ (xs.map (·.1)).Nodup
  | .set S n => h.SetOf (intKind P w) a S n
  | .ins C dx fs => H dx = some (.own a) ∧ fs.length ≤ 1000 ∧ dx ≠ a ∧ h.get? a = some (PySem.W.instObj C dx) ∧
      ∃ mA, h.Ns1 dx mA ∧ (∀ f, RelO (fs.lookup f) (mA f)) ∧ PySem.Within mA (fs.map (·.1))
  | .own _ => ∃ o, h.get? a = some o
  | .xd fs => ∃ mA, h.Ns1 a mA ∧ ∀ f, RelO (fs.lookup f) (mA f)
  | .rng lo hi => ∃ t u v, h.get? a = some { cls := .type "range", data := .fields #[.int lo t, .int hi u, .int 1 v] }
  | .frz o u => h.get? a = some o ∧ ObjOk H h a u
  | .tbl ps => h.get? a = some { cls := .none, data := .fields ps }
  | .met f x => h.get? a = some (PySem.W.methodObj (.ref f) (.ref x))
  | .ext φ => φ h ∧ (∃ o, h.get? a = some o) ∧ ∀ h1 h2 : Heap, φ h1 → (∀ o, h1.get? a = some o → h2.get? a = some o) → φ h2
/-- the abstract heap is held -/
def HOk (H : Hp) (h : Heap) : Prop := ∀ a o, H a = some o → ObjOk P w H h a o
end

section
variable {P : Program} {w : World} {H H' : Hp} {h h' : Heap} {a : Addr} {o : HO}
theorem ObjOk.lt (x : ObjOk P w H h a o) : a < h.objs.size := by
  cases o with
  | lst xs => obtain ⟨_, _, _, _, e⟩ := x; exact Heap.lt_size e
  | tup xs => obtain ⟨_, _, _, p⟩ := x; exact p.lt
  | dK kvs => obtain ⟨_, _, _, _, o, _, _, e, _⟩ := x; exact Heap.lt_size e
  | dT kvs => obtain ⟨_, _, _, _, o, _, _, e, _⟩ := x; exact Heap.lt_size e
  | set S n => obtain ⟨o, _, _, _, e, _⟩ := x; exact Heap.lt_size e
  | ins C dx fs => obtain ⟨_, _, _, e, _⟩ := x; exact Heap.lt_size e
  | own y => obtain ⟨_, e⟩ := x; exact Heap.lt_size e
  | xd fs => obtain ⟨_, ⟨_, _, _, e, _⟩, _⟩ := x; exact Heap.lt_size e
  | rng lo hi => obtain ⟨_, _, _, e⟩ := x; exact Heap.lt_size e
  | frz ob u => obtain ⟨e, _⟩ := x; exact Heap.lt_size e
  | tbl ps => exact Heap.lt_size (show h.get? a = some _ from x)
  | met f y => exact Heap.lt_size (show h.get? a = some _ from x)
  | ext φ => obtain ⟨_, ⟨_, e⟩, _⟩ := x; exact Heap.lt_size e
theorem Paired.mapP {α β : Type} {F G : α → β → Prop} : ∀ {l₁ : List α} {l₂ : List β}, Paired F l₁ l₂ → (∀ a b, F a b → G a b) → Paired G l₁ l₂
  | _, _, .nil, _ => .nil
  | _, _, .cons r t, f => .cons (f _ _ r) (Paired.mapP t f)
/-- what an object's description leans on: its own object, its own dict, the tuples -/
theorem ObjOk.stay (x : ObjOk P w H h a o) (k : ∀ b u, (b = a ∨ H b = some (.own a)) → h.get? b = some u → h'.get? b = some u)
    (ho : ∀ b, H b = some (.own a) → H' b = some (.own a)) (ht : ∀ b xs, H b = some (.tup xs) → H' b = some (.tup xs)) : ObjOk P w H' h' a o := by
  induction o with
  | lst xs => obtain ⟨z, its, n, r, e⟩ := x; exact ⟨z, its, n, r, k _ _ (.inl rfl) e⟩
  | tup xs => obtain ⟨z, its, r, ob, e, c⟩ := x; exact ⟨z, its, r, ob, k _ _ (.inl rfl) e, c⟩
  | dK kvs => obtain ⟨z, y, vs, r, ob, es, ep, e, c⟩ := x; exact ⟨z, y, vs, r, ob, es, ep, k _ _ (.inl rfl) e, c⟩
  | dT kvs =>
    obtain ⟨z, y, xs, r, ob, es, ep, e, c⟩ := x
    exact ⟨z, y, xs, Paired.mapP r fun p q z => ⟨z.1, ht _ _ z.2.1, z.2.2⟩, ob, es, ep, k _ _ (.inl rfl) e, c⟩
  | set S n => obtain ⟨ob, es, ep, t, e, c⟩ := x; exact ⟨ob, es, ep, t, k _ _ (.inl rfl) e, c⟩
  | ins C dx fs =>
    obtain ⟨d, z, ne, e, mA, ⟨od, es, ep, e2, c⟩, r⟩ := x
    exact ⟨ho _ d, z, ne, k _ _ (.inl rfl) e, mA, ⟨od, es, ep, k _ _ (.inr d) e2, c⟩, r⟩
  | own y => obtain ⟨ob, e⟩ := x; exact ⟨ob, k _ _ (.inl rfl) e⟩
  | xd fs => obtain ⟨mA, ⟨od, es, ep, e, c⟩, r⟩ := x; exact ⟨mA, ⟨od, es, ep, k _ _ (.inl rfl) e, c⟩, r⟩
  | rng lo hi => obtain ⟨t, u, v, e⟩ := x; exact ⟨t, u, v, k _ _ (.inl rfl) e⟩
  | frz ob u ih => obtain ⟨e, q⟩ := x; exact ⟨k _ _ (.inl rfl) e, ih q⟩
  | tbl ps =>
    have e : h.get? a = some { cls := .none, data := .fields ps } := x
    show h'.get? a = some { cls := .none, data := .fields ps }
    exact k a _ (.inl rfl) e
  | met f y =>
    have e : h.get? a = some (PySem.W.methodObj (.ref f) (.ref y)) := x
    show h'.get? a = some (PySem.W.methodObj (.ref f) (.ref y))
    exact k a _ (.inl rfl) e
  | ext φ => obtain ⟨p, ⟨o, e⟩, st⟩ := x; exact ⟨st _ _ p fun o q => k _ _ (.inl rfl) q, ⟨o, k _ _ (.inl rfl) e⟩, st⟩
theorem HOk.lt (x : HOk P w H h) (e : H a = some o) : a < h.objs.size := (x a o e).lt
theorem HOk.fresh (x : HOk P w H h) (e : h.objs.size ≤ a) : H a = none := by
  cases q : H a with
  | none => rfl
  | some u => exact absurd (Nat.lt_of_lt_of_le (x.lt q) e) (Nat.lt_irrefl _)
/-- every object of the heap is kept -/
theorem HOk.kept (x : HOk P w H h) (k : ∀ b u, h.get? b = some u → h'.get? b = some u) : HOk P w H h' := fun a o e =>
  (x a o e).stay (fun b u _ q => k b u q) (fun _ q => q) fun _ _ q => q
/-- a new object is laid and tracked -/
theorem HOk.laid (x : HOk P w H h) (k : ∀ b u, h.get? b = some u → h'.get? b = some u) (hp : h.objs.size ≤ a) (new : ObjOk P w (upd H a o) h' a o) : HOk P w (upd H a o) h' := fun b u e => by
  have hn := x.fresh hp
  by_cases hb : b = a
  · subst hb; rw [upd_same] at e; cases e; exact new
  · rw [upd_ne hb] at e
    exact (x b u e).stay (fun c v _ q => k c v q) (fun c q => by rw [upd_ne (ne_of_none q hn)]; exact q) fun c xs q => by rw [upd_ne (ne_of_none q hn)]; exact q
end

/-- what may be read as u: it is u, or a known u -/
def Rd (H : Hp) (a : Addr) (u : HO) : Prop := H a = some u ∨ ∃ o, H a = some (.frz o u)
theorem Rd.ok {P : Program} {w : World} {H : Hp} {h : Heap} {a : Addr} {u : HO} (r : Rd H a u) (x : HOk P w H h) : ObjOk P w H h a u := by
  rcases r with r | ⟨o, r⟩
  · exact x a u r
  · obtain ⟨_, q⟩ := x a _ r
    exact q
/-- what may be written -/
def Mut : Option HO → Prop
  | some (.lst _) => True
  | some (.dK _) => True
  | some (.dT _) => True
  | some (.set _ _) => True
  | some (.ins _ _ _) => True
  | some (.ext _) => True
  | _ => False
section
variable {P : Program} {w : World} {H : Hp} {h h' : Heap} {x e : Addr} {o' : HO}
/-- the object at e is changed: x itself, or the dict of the instance x -/
theorem HOk.write (ok : HOk P w H h) (mu : Mut (H x)) (he : e = x ∨ H e = some (.own x)) (k : ∀ b u, b ≠ e → h.get? b = some u → h'.get? b = some u) (heo : ∃ u, h'.get? e = some u)
    (new : ObjOk P w (upd H x o') h' x o') : HOk P w (upd H x o') h' := fun b u q => by
  have nown : ∀ c y, H c = some (.own y) → c ≠ x := fun c y r z => by subst z; rw [r] at mu; exact mu
  have ntup : ∀ c xs, H c = some (.tup xs) → c ≠ x := fun c xs r z => by subst z; rw [r] at mu; exact mu
  by_cases hb : b = x
  · subst hb; rw [upd_same] at q; cases q; exact new
  · rw [upd_ne hb] at q
    by_cases hbe : b = e
    · have q' : H b = some (.own x) := by
        rcases he with z | z
        · exact absurd (hbe.trans z) hb
        · rw [hbe]; exact z
      rw [q] at q'; cases q'
      obtain ⟨v, hv⟩ := heo
      exact ⟨v, by rw [hbe]; exact hv⟩
    · refine (ok b u q).stay (fun c v hc r => k c v ?_ r) (fun c r => by rw [upd_ne (nown c b r)]; exact r) fun c xs r => by rw [upd_ne (ntup c xs r)]; exact r
      rcases hc with rfl | hc
      · exact hbe
      · rintro rfl
        rcases he with z | z
        · exact nown c b hc z
        · rw [hc] at z; cases z; exact hb rfl
end

/-! ### kept unless tracked; of the frames at fs (the callers') the slots may change (an exception that passes writes there); of the records at ex (iterators) nothing is said -/
structure Un (fs ex : List Addr) (H H' : Hp) (h h' : Heap) : Prop where
  keep : ∀ b o, h.get? b = some o → H b = none → b ∉ fs → b ∉ ex → h'.get? b = some o
  slot : ∀ b o, h.get? b = some o → H b = none → b ∈ fs → b ∉ ex → ∃ sl, h'.get? b = some { o with slots := sl }
  free : ∀ b o, h.get? b = some o → H b = none → b ∉ ex → H' b = none
  there : ∀ b o, h.get? b = some o → b ∉ ex → ∃ o', h'.get? b = some o'
  tups : ∀ b xs, H b = some (.tup xs) → H' b = some (.tup xs)
  frzs : ∀ b o u, H b = some (.frz o u) → H' b = some (.frz o u)
  tbls : ∀ b ps, H b = some (.tbl ps) → ∃ more, H' b = some (.tbl (ps ++ more))
section
variable {fs fs' ex ex' : List Addr} {H H1 H2 : Hp} {h h1 h2 h' : Heap} {a x e : Addr} {o : HO}
theorem Un.any (u : Un fs ex H H1 h h1) {b : Addr} {ob : Obj} (q : h.get? b = some ob) (n : H b = none) (hx : b ∉ ex) : ∃ sl, h1.get? b = some { ob with slots := sl } := by
  by_cases hb : b ∈ fs
  · exact u.slot b ob q n hb hx
  · exact ⟨ob.slots, u.keep b ob q n hb hx⟩
theorem Un.kept (k : ∀ b u, h.get? b = some u → h'.get? b = some u) : Un fs ex H H h h' :=
  ⟨fun b ob q _ _ _ => k b ob q, fun b ob q _ _ _ => ⟨ob.slots, k b ob q⟩, fun _ _ _ n _ => n, fun b ob q _ => ⟨ob, k b ob q⟩, fun _ _ q => q, fun _ _ _ q => q, fun _ ps q => ⟨#[], by rw [q]; simp⟩⟩
theorem Un.refl : Un fs ex H H h h := Un.kept fun _ _ q => q
theorem Un.laid (k : ∀ b u, h.get? b = some u → h'.get? b = some u) (hp : h.objs.size ≤ a) (hn : H a = none) : Un fs ex H (upd H a o) h h' where
  keep := fun b u q _ _ _ => k b u q
  slot := fun b u q _ _ _ => ⟨u.slots, k b u q⟩
  free := fun b u q n _ => by rw [upd_ne (Nat.ne_of_lt (Nat.lt_of_lt_of_le (Heap.lt_size q) hp))]; exact n
  there := fun b u q _ => ⟨u, k b u q⟩
  tups := fun b xs q => by rw [upd_ne (ne_of_none q hn)]; exact q
  frzs := fun b u xs q => by rw [upd_ne (ne_of_none q hn)]; exact q
  tbls := fun b ps q => ⟨#[], by rw [upd_ne (ne_of_none q hn), q]; simp⟩
theorem Un.write (mu : Mut (H x)) (he : e = x ∨ H e = some (.own x)) (k : ∀ b u, b ≠ e → h.get? b = some u → h'.get? b = some u) (heo : ∃ u, h'.get? e = some u) : Un fs ex H (upd H x o) h h' := by
  have hx : ∀ b, H b = none → b ≠ x := fun b n z => by subst z; rw [n] at mu; exact mu
  have hb : ∀ b, H b = none → b ≠ e := fun b n z => by
    subst z
    rcases he with r | r
    · exact hx b n r
    · rw [n] at r; cases r
  have hm : ∀ b u, H b = some u → ¬ Mut (some u) → b ≠ x := fun b u q nm z => by subst z; rw [q] at mu; exact nm mu
  refine ⟨fun b u q n _ _ => k b u (hb b n) q, fun b u q n _ _ => ⟨u.slots, k b u (hb b n) q⟩, fun b u q n _ => by rw [upd_ne (hx b n)]; exact n, fun b u q _ => ?_,
    fun b xs q => by rw [upd_ne (hm b _ q fun z => z)]; exact q, fun b u xs q => by rw [upd_ne (hm b _ q fun z => z)]; exact q, fun b ps q => ⟨#[], by rw [upd_ne (hm b _ q fun z => z), q]; simp⟩⟩
  by_cases hbe : b = e
  · subst hbe; exact heo
  · exact ⟨u, k b u hbe q⟩
end

/-! ### the heap without what is tracked -/
def trk (h : Heap) (H : Hp) : List Addr := (List.range h.objs.size).filter fun a => (H a).isSome
def hidT (h : Heap) (H : Hp) : Heap := PySem.W.hideAll h (trk h H)
theorem hidT_size (h : Heap) (H : Hp) : (hidT h H).objs.size = h.objs.size := PySem.W.hideAll_size _ _
theorem hidT_get {h : Heap} {H : Hp} {b : Addr} {o : Obj} (e : h.get? b = some o) (n : H b = none) : (hidT h H).get? b = some o :=
  PySem.W.hideAll_get _ e fun hm => by
    have q : (H b).isSome = true := (List.mem_filter.mp hm).2
    rw [n] at q; simp at q
theorem of_hidT {h : Heap} {H : Hp} {b : Addr} {o : Obj} (e : (hidT h H).get? b = some o) : h.get? b = some o ∧ H b = none := by
  have e' : h.get? b = some o := PySem.W.of_hideAll (trk h H) e
  refine ⟨e', ?_⟩
  cases q : H b with
  | none => rfl
  | some x =>
    have hm : b ∈ trk h H := List.mem_filter.mpr ⟨List.mem_range.mpr (Heap.lt_size e'), by simp [q]⟩
    have z : (hidT h H).get? b = none := PySem.W.hideAll_none (trk h H) hm
    rw [z] at e; cases e

/-! ### OpenK's ledger, filled with every new object but one -/
def allNews (g h : Heap) (L : Addr) : List (Addr × Obj) := (List.range h.objs.size).filterMap fun a => if a = L ∨ (g.get? a).isSome = true then none else (h.get? a).map fun o => (a, o)
def rest (g h : Heap) (L d : Addr) : List (Addr × Obj) := (allNews g h L).filter fun p => decide (p.1 ≠ d)
end L2

namespace L2
open PySem PySem.Spec PyProof.Rows

/-- the module's facts, over the base: the heap at the law's entry without what is tracked there -/
structure Mod (K : PySem.W.Frag) (mg : Str → Option Value) (base : Heap) : Prop where
  kin : K.In base
  glob : base.Ns mainGlobals mg
  blt : ∃ mb, base.Ns builtinsNs mb ∧ ∀ x : Str, x ≠ "__name__" → mb x = bootBuiltins x
  nolimit : base.NoLimit

/-- the context: a def's body (or a comprehension's block) running. base: fixed through the whole law; s₀, H₀: the entry; outer: the frames whose slots others may change (a def's callers); stack: all frames that run;
   ex: iterators that were made ahead of the entry and are walked here (a comprehension's); fn: the names whose cells were made at the entry (a def: all; a comprehension's block: its own); calm: not within an except suite; pn: pins that every state bears; xe: what is wanted of an exception that leaves the code -/
structure Cx where
  prog : Program
  w : World
  K : PySem.W.Frag
  mg : Str → Option Value
  base : Heap
  A : Around
  N : List Str
  s₀ : Shared
  H₀ : Hp
  env : Env
  outer : List Env
  stack : List Env
  ex : List Addr
  fn : Str → Bool
  calm : Bool
  pn : List (Addr × Obj)
  xe : Value → Shared → Prop
/-- the callers' frames -/
def frs (l : List Env) : List Addr := l.filterMap (·.frame)
abbrev Cx.fs (X : Cx) : List Addr := frs X.outer

def Vis (sc : Scope) (x : Str) : Prop := sc.names.lookup x = some .local ∨ sc.names.lookup x = some .cell ∨ sc.names.lookup x = some .free
def Loc (sc : Scope) (x : Str) : Prop := sc.names.lookup x = some .local ∨ sc.names.lookup x = some .cell
def Look (env : Env) (h : Heap) (m : Str → Option Value) (x : Str) (u : Value) : Prop :=
  (env.kindOf x = some .local ∧ m x = some u) ∨ ((env.kindOf x = some .cell ∨ env.kindOf x = some .free) ∧ ∃ c, env.cells.lookup x = some c ∧ h.IsCell c (some u))

structure Cx.Ok (X : Cx) : Prop where
  mod : Mod X.K X.mg X.base
  kind : X.env.scope.kind = .function
  glob : X.env.globals = mainGlobals
  blt : X.env.builtins = builtinsNs
  above : X.s₀.heap.objs.size ≤ X.env.locals
  inj : ∀ x y c, X.env.cells.lookup x = some c → X.env.cells.lookup y = some c → x = y
  has : ∀ x, (X.env.kindOf x = some .cell ∨ X.env.kindOf x = some .free) → ∃ c, X.env.cells.lookup x = some c
  cab : ∀ x c, X.fn x = true → X.env.cells.lookup x = some c → X.s₀.heap.objs.size ≤ c
  hd : X.calm = true → X.A.handled = none
  frames : X.A.frames = some X.stack
  stk : X.stack = X.outer ∨ (X.stack = X.env :: X.outer ∧ X.env.frame = some X.env.locals)
  exf : ∀ b ∈ X.ex, b ≠ X.env.locals ∧ ∀ x c, X.env.cells.lookup x = some c → c ≠ b
  bs : ∀ b o, X.base.get? b = some o → X.s₀.heap.get? b = some o ∧ X.H₀ b = none
  bsz : X.base.objs.size ≤ X.s₀.heap.objs.size
  noex : ∀ b o, X.base.get? b = some o → b ∉ X.ex
  exfs : ∀ b ∈ X.ex, b ∉ X.fs
  funs : X.s₀.heap.FunFrames X.base X.outer
  frf : ∀ b ∈ X.fs, X.H₀ b = none

structure Inv (X : Cx) (pins : List (Addr × Obj)) (σ : List (Option V)) (H : Hp) (s : Shared) : Prop where
  ok : X.Ok
  os : s.os = X.s₀.os
  bare : AllBare s.gens
  base : Un X.fs X.ex X.H₀ H X.s₀.heap s.heap
  loc : ∃ m, s.heap.Ns X.env.locals m ∧ ∀ (i : Nat) (x : Str) (v : V), X.N[i]? = some x → σ[i]? = some (some v) → Vis X.env.scope x → ∃ u, RelV v u ∧ Look X.env s.heap m x u
  cell : ∀ x c, X.env.cells.lookup x = some c → ∃ v, s.heap.IsCell c v
  free : H X.env.locals = none
  freeC : ∀ x c, X.env.cells.lookup x = some c → H c = none
  pin : ∀ p ∈ X.pn ++ pins, s.heap.get? p.1 = some p.2 ∧ H p.1 = none ∧ p.1 ≠ X.env.locals ∧ p.1 ∉ X.fs ∧ ∀ v, p.2.data ≠ .cell v
  hok : HOk X.prog X.w H s.heap
  len : σ.length = X.N.length

section
variable {X : Cx} {pins : List (Addr × Obj)} {σ : List (Option V)} {H H' : Hp} {s : Shared} {h' : Heap}

theorem Cx.Ok.nofr (ok : X.Ok) {b : Addr} {o : Obj} (e : X.base.get? b = some o) : b ∉ X.fs := fun hb => by
  have := (ok.funs.mem hb).1
  rw [e] at this; cases this
theorem Inv.bs (I : Inv X pins σ H s) : ∀ b o, X.base.get? b = some o → s.heap.get? b = some o ∧ H b = none := fun b o e =>
  ⟨I.base.keep b o (I.ok.bs b o e).1 (I.ok.bs b o e).2 (I.ok.nofr e) (I.ok.noex b o e), I.base.free b o (I.ok.bs b o e).1 (I.ok.bs b o e).2 (I.ok.noex b o e)⟩
theorem Inv.bk (I : Inv X pins σ H s) : ∀ b o, X.base.get? b = some o → s.heap.get? b = some o := fun b o e => (I.bs b o e).1
theorem Inv.mod (I : Inv X pins σ H s) : Mod X.K X.mg X.base := I.ok.mod
theorem Inv.kIn (I : Inv X pins σ H s) : X.K.In s.heap := I.ok.mod.kin.keeps I.bk
theorem Inv.lt (I : Inv X pins σ H s) : X.env.locals < s.heap.objs.size := let ⟨_, hn, _⟩ := I.loc; hn.lt
theorem Inv.sz (I : Inv X pins σ H s) : X.s₀.heap.objs.size ≤ s.heap.objs.size := Nat.le_trans I.ok.above (Nat.le_of_lt I.lt)
theorem Inv.nofs (I : Inv X pins σ H s) {a : Addr} (h : s.heap.objs.size ≤ a) : a ∉ X.fs := fun hb => by
  obtain ⟨_, o, ho, _⟩ := I.ok.funs.mem hb
  exact absurd (Nat.lt_of_lt_of_le (Heap.lt_size ho) (Nat.le_trans I.sz h)) (Nat.lt_irrefl _)
theorem Inv.cne (I : Inv X pins σ H s) : ∀ x c, X.env.cells.lookup x = some c → c ≠ X.env.locals := fun x c e z => by
  obtain ⟨v, o, ho, hd⟩ := I.cell x c e
  obtain ⟨m, ⟨o', es, ep, ho', hd', _⟩, _⟩ := I.loc
  rw [z, ho'] at ho; cases ho; rw [hd'] at hd; cases hd
theorem Inv.funs (I : Inv X pins σ H s) : s.heap.FunFrames X.base X.outer := by
  have all : ∀ (l : List Env), (∀ b ∈ frs l, b ∈ X.fs) → X.s₀.heap.FunFrames X.base l → s.heap.FunFrames X.base l := by
    intro l
    induction l with
    | nil => intro _ _; trivial
    | cons env r ih =>
      intro hs hl
      obtain ⟨hk, ⟨L, o, hf, hn, ho, hd⟩, hr⟩ := hl
      have hL : L ∈ X.fs := hs L (by unfold frs; rw [List.filterMap_cons, hf]; exact List.mem_cons_self)
      obtain ⟨sl, e⟩ := I.base.slot L o ho (I.ok.frf L hL) hL fun z => I.ok.exfs L z hL
      exact ⟨hk, ⟨L, _, hf, hn, e, hd⟩, ih (fun b hb => hs b (by unfold frs; rw [List.filterMap_cons, hf]; exact List.mem_cons_of_mem _ hb)) hr⟩
  exact all X.outer (fun _ hb => hb) I.ok.funs

/-- the frames that run, for a call -/
theorem Inv.stack (I : Inv X pins σ H s) : s.heap.FunFrames X.base X.stack := by
  rcases I.ok.stk with e | ⟨e, hf⟩
  · rw [e]; exact I.funs
  · rw [e]
    obtain ⟨m, hn, _⟩ := I.loc
    refine .cons (by rw [I.ok.kind]; decide) hf hn ?_ I.funs
    exact Heap.get?_none_of_le (Nat.le_trans I.ok.bsz I.ok.above)
theorem Inv.stkSub (I : Inv X pins σ H s) : ∀ b ∈ frs X.stack, b ∈ X.env.locals :: X.fs := fun b hb => by
  rcases I.ok.stk with e | ⟨e, hf⟩
  · rw [e] at hb; exact List.mem_cons_of_mem _ hb
  · rw [e] at hb
    unfold frs at hb
    rw [List.filterMap_cons, hf] at hb
    exact hb
theorem Inv.stkFree (I : Inv X pins σ H s) : ∀ b ∈ frs X.stack, H b = none := fun b hb => by
  rcases List.mem_cons.mp (I.stkSub b hb) with e | hb
  · rw [e]; exact I.free
  · obtain ⟨_, o, ho, _⟩ := I.ok.funs.mem hb
    exact I.base.free b o ho (I.ok.frf b hb) fun z => I.ok.exfs b z hb

/-- THE STEP: the untracked objects but the frame and the records at ch are kept (the callers' frames up to slots), the frame's map is kept, the new abstract heap is held -/
theorem Inv.step {g' : Array GenState} {t' : Nat} {d' : Drawn} {ch : List Addr} (I : Inv X pins σ H s)
    (hch : ∀ b ∈ ch, (b ∈ X.ex ∨ X.s₀.heap.objs.size ≤ b) ∧ b ≠ X.env.locals ∧ (∀ x c, X.env.cells.lookup x = some c → c ≠ b) ∧ ∀ p ∈ X.pn ++ pins, p.1 ≠ b)
    (keep : ∀ b o, b ≠ X.env.locals → b ∉ X.fs → b ∉ ch → s.heap.get? b = some o → H b = none → h'.get? b = some o)
    (slot : ∀ b o, b ≠ X.env.locals → b ∈ X.fs → b ∉ ch → s.heap.get? b = some o → H b = none → ∃ sl, h'.get? b = some { o with slots := sl }) (free : ∀ b o, b ∉ ch → s.heap.get? b = some o → H b = none → H' b = none)
    (there : ∀ b o, b ∉ ch → s.heap.get? b = some o → ∃ o', h'.get? b = some o')
    (tups : ∀ b xs, H b = some (.tup xs) → H' b = some (.tup xs)) (frzs : ∀ b o u, H b = some (.frz o u) → H' b = some (.frz o u)) (tbls : ∀ b ps, H b = some (.tbl ps) → ∃ more, H' b = some (.tbl (ps ++ more)))
    (ns : ∀ m, s.heap.Ns X.env.locals m → h'.Ns X.env.locals m) (hok : HOk X.prog X.w H' h') (hg : AllBare g') :
    Inv X pins σ H' { s with heap := h', gens := g', drawn := d', toks := t' } := by
  have neL : ∀ b o, X.s₀.heap.get? b = some o → b ≠ X.env.locals := fun b o e => Nat.ne_of_lt (Nat.lt_of_lt_of_le (Heap.lt_size e) I.ok.above)
  have neC : ∀ b o, X.s₀.heap.get? b = some o → b ∉ X.ex → b ∉ ch := fun b o e hx hb => by
    rcases (hch b hb).1 with z | z
    · exact hx z
    · exact absurd (Nat.lt_of_lt_of_le (Heap.lt_size e) z) (Nat.lt_irrefl _)
  have cellK : ∀ x c, X.env.cells.lookup x = some c → ∀ v, s.heap.IsCell c v → h'.IsCell c v := fun x c e v ⟨o, ho, hd⟩ => by
    have nch : c ∉ ch := fun z => (hch c z).2.2.1 x c e rfl
    by_cases hc : c ∈ X.fs
    · obtain ⟨sl, q⟩ := slot c o (I.cne x c e) hc nch ho (I.freeC x c e)
      exact ⟨_, q, hd⟩
    · exact ⟨o, keep c o (I.cne x c e) hc nch ho (I.freeC x c e), hd⟩
  refine ⟨I.ok, I.os, hg, ⟨fun b o e n hb hx => ?_, fun b o e n hb hx => ?_, fun b o e n hx => ?_, fun b o e hx => ?_, fun b xs e => tups b xs (I.base.tups b xs e), fun b o xs e => frzs b o xs (I.base.frzs b o xs e), fun b ps e => ?_⟩, ?_, fun x c e => ?_, ?_, fun x c e => ?_, fun p hp => ?_, hok, I.len⟩
  · exact keep b o (neL b o e) hb (neC b o e hx) (I.base.keep b o e n hb hx) (I.base.free b o e n hx)
  · obtain ⟨sl, e1⟩ := I.base.slot b o e n hb hx
    obtain ⟨sl', e2⟩ := slot b _ (neL b o e) hb (neC b o e hx) e1 (I.base.free b o e n hx)
    exact ⟨sl', e2⟩
  · obtain ⟨o', e1⟩ := I.base.there b o e hx
    exact free b o' (neC b o e hx) e1 (I.base.free b o e n hx)
  · obtain ⟨o', e1⟩ := I.base.there b o e hx
    exact there b o' (neC b o e hx) e1
  · obtain ⟨m1, e1⟩ := I.base.tbls b ps e
    obtain ⟨m2, e2⟩ := tbls b _ e1
    exact ⟨m1 ++ m2, by rw [e2, Array.append_assoc]⟩
  · obtain ⟨m, hn, hl⟩ := I.loc
    refine ⟨m, ns m hn, fun i x v e1 e2 e3 => ?_⟩
    obtain ⟨u, r, l⟩ := hl i x v e1 e2 e3
    refine ⟨u, r, ?_⟩
    rcases l with l | ⟨k, c, e, z⟩
    · exact .inl l
    · exact .inr ⟨k, c, e, cellK x c e _ z⟩
  · obtain ⟨v, z⟩ := I.cell x c e
    exact ⟨v, cellK x c e v z⟩
  · obtain ⟨m, ⟨o, _, _, ho, _⟩, _⟩ := I.loc
    exact free _ o (fun z => (hch _ z).2.1 rfl) ho I.free
  · obtain ⟨v, o, ho, hd⟩ := I.cell x c e
    exact free c o (fun z => (hch c z).2.2.1 x c e rfl) ho (I.freeC x c e)
  · obtain ⟨e, n, ne, nf, d⟩ := I.pin p hp
    have nch : p.1 ∉ ch := fun z => (hch p.1 z).2.2.2 p hp rfl
    exact ⟨keep p.1 p.2 ne nf nch e n, free p.1 p.2 nch e n, ne, nf, d⟩
/-- .. where the frame's own object is kept too -/
theorem Inv.un {t' : Nat} (I : Inv X pins σ H s) (u : Un X.fs [] H H' s.heap h') (hok : HOk X.prog X.w H' h') : Inv X pins σ H' { s with heap := h', toks := t' } := by
  obtain ⟨m, ⟨o, es, ep, ho, r⟩, _⟩ := id I.loc
  obtain ⟨sl, hL⟩ := u.any ho I.free (by simp)
  exact I.step (g' := s.gens) (d' := s.drawn) (ch := []) (fun _ z => nomatch z) (fun b o _ hb _ e n => u.keep b o e n hb (by simp)) (fun b o _ hb _ e n => u.slot b o e n hb (by simp)) (fun b o _ e n => u.free b o e n (by simp)) (fun b o _ e => u.there b o e (by simp)) u.tups u.frzs u.tbls (fun m' hm => by
    obtain ⟨o', es', ep', ho', r'⟩ := hm
    rw [ho] at ho'; cases ho'
    exact ⟨_, es', ep', hL, r'⟩) hok I.bare
/-- behind a call (or a comprehension's block): the slots of this frame may have changed too, the records at ch may have turned -/
theorem Inv.call {g' : Array GenState} {t' : Nat} {d' : Drawn} {ch : List Addr} (I : Inv X pins σ H s) (u : Un (frs X.stack) ch H H' s.heap h') (hok : HOk X.prog X.w H' h') (hg : AllBare g')
    (hch : ∀ b ∈ ch, (b ∈ X.ex ∨ X.s₀.heap.objs.size ≤ b) ∧ b ≠ X.env.locals ∧ (∀ x c, X.env.cells.lookup x = some c → c ≠ b) ∧ ∀ p ∈ X.pn ++ pins, p.1 ≠ b) :
    Inv X pins σ H' { s with heap := h', gens := g', drawn := d', toks := t' } := by
  obtain ⟨m, ⟨o, es, ep, ho, r⟩, _⟩ := id I.loc
  obtain ⟨sl, hL⟩ := u.any ho I.free fun z => (hch _ z).2.1 rfl
  exact I.step (ch := ch) hch (fun b o hL hb hc e n => u.keep b o e n (fun z => (List.mem_cons.mp (I.stkSub b z)).elim hL hb) hc) (fun b o _ _ hc e n => u.any e n hc) (fun b o hc e n => u.free b o e n hc) (fun b o hc e => u.there b o e hc) u.tups u.frzs u.tbls (fun m' hm => by
    obtain ⟨o', es', ep', ho', r'⟩ := hm
    rw [ho] at ho'; cases ho'
    exact ⟨_, es', ep', hL, r'⟩) hok hg
/-- an untracked record of ours (an iterator) has turned -/
theorem Inv.turned {t' : Nat} {it : Addr} (I : Inv X pins σ H s) (k : ∀ b o, b ≠ it → s.heap.get? b = some o → h'.get? b = some o) (hn : H it = none) (hL : it ≠ X.env.locals)
    (h1 : it ∈ X.ex ∨ X.s₀.heap.objs.size ≤ it) (h2 : ∀ x c, X.env.cells.lookup x = some c → c ≠ it) (h3 : ∀ p ∈ X.pn ++ pins, p.1 ≠ it) : Inv X pins σ H { s with heap := h', toks := t' } := by
  have nit : ∀ b u, H b = some u → b ≠ it := fun b u e z => by rw [z, hn] at e; cases e
  refine I.step (g' := s.gens) (d' := s.drawn) (ch := [it]) (fun b hb => ?_) (fun b o _ _ hc e _ => k b o (fun z => hc (by simp [z])) e) (fun b o _ _ hc e _ => ⟨o.slots, k b o (fun z => hc (by simp [z])) e⟩) (fun _ _ _ _ n => n)
    (fun b o hc e => ⟨o, k b o (fun z => hc (by simp [z])) e⟩) (fun _ _ e => e) (fun _ _ _ e => e) (fun b ps e => ⟨#[], by rw [e]; simp⟩) (fun m hm => ?_) (fun b u e => ?_) I.bare
  · have e : b = it := by simpa using hb
    subst e
    exact ⟨h1, hL, h2, h3⟩
  · obtain ⟨o, es, ep, ho, r⟩ := hm
    exact ⟨o, es, ep, k _ o (Ne.symm hL) ho, r⟩
  · refine (I.hok b u e).stay (fun c v hc q => k c v ?_ q) (fun _ q => q) fun _ _ q => q
    rcases hc with z | z
    · rw [z]; exact nit b u e
    · exact nit c _ z
theorem Inv.tok (I : Inv X pins σ H s) (t : Nat) : Inv X pins σ H { s with toks := t } := I.un (h' := s.heap) (t' := t) Un.refl I.hok
/-- all objects kept -/
theorem Inv.kept {t' : Nat} (I : Inv X pins σ H s) (k : ∀ b u, s.heap.get? b = some u → h'.get? b = some u) : Inv X pins σ H { s with heap := h', toks := t' } := I.un (Un.kept k) (I.hok.kept k)
/-- a new object laid and tracked -/
theorem Inv.laid {a : Addr} {o : HO} {t' : Nat} (I : Inv X pins σ H s) (k : ∀ b u, s.heap.get? b = some u → h'.get? b = some u) (hp : s.heap.objs.size ≤ a) (new : ObjOk X.prog X.w (upd H a o) h' a o) :
    Inv X pins σ (upd H a o) { s with heap := h', toks := t' } := I.un (Un.laid k hp (I.hok.fresh hp)) (I.hok.laid k hp new)
/-- an object written -/
theorem Inv.write {x e : Addr} {o : HO} {t' : Nat} (I : Inv X pins σ H s) (mu : Mut (H x)) (he : e = x ∨ H e = some (.own x)) (k : ∀ b u, b ≠ e → s.heap.get? b = some u → h'.get? b = some u) (heo : ∃ u, h'.get? e = some u)
    (new : ObjOk X.prog X.w (upd H x o) h' x o) : Inv X pins σ (upd H x o) { s with heap := h', toks := t' } := I.un (Un.write mu he k heo) (I.hok.write mu he k heo new)
theorem Inv.pins_of {pins' : List (Addr × Obj)} (I : Inv X pins σ H s) (h : ∀ p ∈ pins', s.heap.get? p.1 = some p.2 ∧ H p.1 = none ∧ p.1 ≠ X.env.locals ∧ p.1 ∉ X.fs ∧ ∀ v, p.2.data ≠ .cell v) : Inv X pins' σ H s :=
  ⟨I.ok, I.os, I.bare, I.base, I.loc, I.cell, I.free, I.freeC, fun p hp => (List.mem_append.mp hp).elim (fun z => I.pin p (List.mem_append_left _ z)) (h p), I.hok, I.len⟩

theorem nodup_ix {N : List Str} (hN : N.Nodup) {i j : Nat} {x : Str} (a : N[i]? = some x) (b : N[j]? = some x) : i = j := by
  obtain ⟨h1, e1⟩ := List.getElem?_eq_some_iff.mp a
  obtain ⟨h2, e2⟩ := List.getElem?_eq_some_iff.mp b
  exact (List.getElem_inj hN).mp (e1.trans e2.symm)

/-- a name is stored; what changed -/
theorem store_ok2 {M : Model} {A : Around} {E : Value → Shared → Prop} {i : Nat} {x : Str} {v : V} {u : Value} {Q : Unit → Shared → Prop} (I : Inv X pins σ H s) (hN : X.N.Nodup) (hi : X.N[i]? = some x) (hx : Loc X.env.scope x) (r : RelV v u)
    (h : ∀ s', Inv X pins (σ.set i (some v)) H s' → (∃ a, Heap.SameBut a s.heap s'.heap ∧ (a = X.env.locals ∨ X.env.cells.lookup x = some a)) → Q () s') (hf : X.fn x = true ∨ X.env.scope.names.lookup x = some .local := by first | exact .inl rfl | exact .inr rfl | assumption) : wpAny M A (storeName X.env x u) Q E s := by
  obtain ⟨m, hn, hl⟩ := id I.loc
  have hcls : (X.env.scope.kind == .class || (X.env.scope.kind == .module && X.env.locals != X.env.globals)) = false := by rw [I.ok.kind]; rfl
  have hiσ : i < σ.length := by rw [I.len]; exact (List.getElem?_eq_some_iff.mp hi).1
  have cne := I.cne
  have tracked : ∀ {a : Addr} {h' : Heap}, (∃ o, s.heap.get? a = some o ∧ H a = none) → Heap.SameBut a s.heap h' → HOk X.prog X.w H h' := fun {a h'} ha hs b ob e => by
    obtain ⟨_, _, hfree⟩ := ha
    refine (I.hok b ob e).stay (fun c w' hc q => (hs.2 c ?_).trans q) (fun _ q => q) fun _ _ q => q
    rintro rfl
    rcases hc with rfl | hc
    · rw [hfree] at e; cases e
    · rw [hfree] at hc; cases hc
  rcases hx with hk | hk
  · refine wpAny_storeName_local hk hn (fun h' hn' hs => ?_) hcls
    obtain ⟨oL, _, _, hoL, _⟩ := id hn
    refine h _ ⟨I.ok, I.os, I.bare, ⟨fun b o e n hb hx => ?_, fun b o e n hb hx => ?_, I.base.free, fun b o e hx => ?_, I.base.tups, I.base.frzs, I.base.tbls⟩, ⟨_, hn', fun j y v' e1 e2 e3 => ?_⟩, fun y c e => ?_, I.free, I.freeC, fun p hp => ?_, tracked ⟨oL, hoL, I.free⟩ hs, by simpa using I.len⟩ ⟨_, hs, .inl rfl⟩
    · exact (hs.2 b (Nat.ne_of_lt (Nat.lt_of_lt_of_le (Heap.lt_size e) I.ok.above))).trans (I.base.keep b o e n hb hx)
    · obtain ⟨sl, e1⟩ := I.base.slot b o e n hb hx
      exact ⟨sl, (hs.2 b (Nat.ne_of_lt (Nat.lt_of_lt_of_le (Heap.lt_size e) I.ok.above))).trans e1⟩
    · obtain ⟨o', e1⟩ := I.base.there b o e hx
      exact ⟨o', (hs.2 b (Nat.ne_of_lt (Nat.lt_of_lt_of_le (Heap.lt_size e) I.ok.above))).trans e1⟩
    · by_cases hj : j = i
      · subst hj
        rw [hi] at e1; cases e1
        rw [List.getElem?_set_self hiσ] at e2
        cases e2
        exact ⟨u, r, .inl ⟨hk, by simp⟩⟩
      · rw [List.getElem?_set_ne (Ne.symm hj)] at e2
        obtain ⟨u', r', q⟩ := hl j y v' e1 e2 e3
        refine ⟨u', r', ?_⟩
        rcases q with ⟨k, e⟩ | ⟨k, c, e, z⟩
        · refine .inl ⟨k, ?_⟩
          have : y ≠ x := fun e => hj (nodup_ix hN e1 (e ▸ hi))
          simp [this, e]
        · exact .inr ⟨k, c, e, z.sameBut hs (cne y c e)⟩
    · obtain ⟨w', z⟩ := I.cell y c e
      exact ⟨w', z.sameBut hs (cne y c e)⟩
    · obtain ⟨e, n, ne, nf, d⟩ := I.pin p hp
      exact ⟨(hs.2 p.1 ne).trans e, n, ne, nf, d⟩
  · have hfn : X.fn x = true := by
      rcases hf with z | z
      · exact z
      · rw [z] at hk; cases hk
    obtain ⟨c, hc⟩ := I.ok.has x (.inl hk)
    obtain ⟨w', z⟩ := I.cell x c hc
    refine wpAny_storeName_cell I.ok.kind hk hc z (fun h' hc' hs => ?_)
    obtain ⟨oc, hoc, hocd⟩ := id z
    refine h { s with heap := h' } ⟨I.ok, I.os, I.bare, ⟨fun b o e n hb hx => ?_, fun b o e n hb hx => ?_, I.base.free, fun b o e hx => ?_, I.base.tups, I.base.frzs, I.base.tbls⟩, ⟨m, hn.sameBut hs (Ne.symm (cne x c hc)), fun j y v' e1 e2 e3 => ?_⟩, fun y c' e => ?_, I.free, I.freeC, fun p hp => ?_, tracked ⟨oc, hoc, I.freeC x c hc⟩ hs, by simpa using I.len⟩ ⟨c, hs, .inr hc⟩
    · exact (hs.2 b (Nat.ne_of_lt (Nat.lt_of_lt_of_le (Heap.lt_size e) (I.ok.cab x c hfn hc)))).trans (I.base.keep b o e n hb hx)
    · obtain ⟨sl, e1⟩ := I.base.slot b o e n hb hx
      exact ⟨sl, (hs.2 b (Nat.ne_of_lt (Nat.lt_of_lt_of_le (Heap.lt_size e) (I.ok.cab x c hfn hc)))).trans e1⟩
    · obtain ⟨o', e1⟩ := I.base.there b o e hx
      exact ⟨o', (hs.2 b (Nat.ne_of_lt (Nat.lt_of_lt_of_le (Heap.lt_size e) (I.ok.cab x c hfn hc)))).trans e1⟩
    · by_cases hj : j = i
      · subst hj
        rw [hi] at e1; cases e1
        rw [List.getElem?_set_self hiσ] at e2
        cases e2
        exact ⟨u, r, .inr ⟨.inl hk, c, hc, hc'⟩⟩
      · rw [List.getElem?_set_ne (Ne.symm hj)] at e2
        obtain ⟨u', r', q⟩ := hl j y v' e1 e2 e3
        refine ⟨u', r', ?_⟩
        rcases q with q | ⟨k, c', e, z'⟩
        · exact .inl q
        · refine .inr ⟨k, c', e, z'.sameBut hs ?_⟩
          rintro rfl
          exact hj (nodup_ix hN e1 (I.ok.inj _ _ _ e hc ▸ hi))
    · by_cases hcc : c' = c
      · subst hcc; exact ⟨_, hc'⟩
      · obtain ⟨w2, z2⟩ := I.cell y c' e
        exact ⟨w2, z2.sameBut hs hcc⟩
    · obtain ⟨e, n, ne, nf, d⟩ := I.pin p hp
      refine ⟨(hs.2 p.1 ?_).trans e, n, ne, nf, d⟩
      intro q
      rw [q, hoc] at e
      have q' : oc = p.2 := Option.some.inj e
      exact d w' (by rw [← q']; exact hocd)
theorem store_ok {M : Model} {A : Around} {E : Value → Shared → Prop} {i : Nat} {x : Str} {v : V} {u : Value} {Q : Unit → Shared → Prop} (I : Inv X pins σ H s) (hN : X.N.Nodup) (hi : X.N[i]? = some x) (hx : Loc X.env.scope x) (r : RelV v u)
    (h : ∀ s', Inv X pins (σ.set i (some v)) H s' → Q () s') (hf : X.fn x = true ∨ X.env.scope.names.lookup x = some .local := by first | exact .inl rfl | exact .inr rfl | assumption) : wpAny M A (storeName X.env x u) Q E s :=
  store_ok2 I hN hi hx r (fun s' I' _ => h s' I') hf
/-- behind a call or a block, the state as it is -/
theorem Inv.call' {s' : Shared} {ch : List Addr} (I : Inv X pins σ H s) (ho : s'.os = s.os) (u : Un (frs X.stack) ch H H' s.heap s'.heap) (hok : HOk X.prog X.w H' s'.heap) (hg : AllBare s'.gens)
    (hch : ∀ b ∈ ch, (b ∈ X.ex ∨ X.s₀.heap.objs.size ≤ b) ∧ b ≠ X.env.locals ∧ (∀ x c, X.env.cells.lookup x = some c → c ≠ b) ∧ ∀ p ∈ X.pn ++ pins, p.1 ≠ b) : Inv X pins σ H' s' := by
  obtain ⟨h', g', d', t', o'⟩ := s'
  have e : o' = s.os := ho
  subst e
  exact I.call (g' := g') (t' := t') (d' := d') u hok hg hch
end

/-! ### the judgements -/
/-- an exception: its class, its own dict's address (where it has one), the abstract heap behind it -/
abbrev XK := Value → Option Addr → Hp → Prop
abbrev St := List (Option V)
abbrev VK := V → Hp → Prop
/-- an expression's reading; a test's; an argument list's -/
abbrev TE := St → Hp → VK → Prop
abbrev TT := St → Hp → (Bool → Hp → Prop) → Prop
abbrev TA := St → Hp → (List V → Hp → Prop) → Prop
/-- what is wanted behind a statement -/
structure Ends where
  nx : St → Hp → Prop
  rt : VK
  bk : St → Hp → Prop := fun _ _ => False
  ct : St → Hp → Prop := fun _ _ => False
abbrev TS := Ends → St → Hp → Prop

def EP (X : Cx) (pins : List (Addr × Obj)) (σ : St) (Q : VK) (u : Value) (s' : Shared) : Prop := ∃ v H', Inv X pins σ H' s' ∧ RelV v u ∧ Q v H'
def TP (X : Cx) (pins : List (Addr × Obj)) (σ : St) (Q : Bool → Hp → Prop) (b : Bool) (s' : Shared) : Prop := ∃ H', Inv X pins σ H' s' ∧ Q b H'
def AP (X : Cx) (pins : List (Addr × Obj)) (σ : St) (Q : List V → Hp → Prop) (us : List Value) (s' : Shared) : Prop := ∃ vs H', Inv X pins σ H' s' ∧ Vals vs us ∧ Q vs H'
def SP (X : Cx) (pins : List (Addr × Obj)) (D : Ends) (f : Flow) (s' : Shared) : Prop :=
  match f with
  | .next => ∃ σ' H', Inv X pins σ' H' s' ∧ D.nx σ' H'
  | .brk => ∃ σ' H', Inv X pins σ' H' s' ∧ D.bk σ' H'
  | .cont => ∃ σ' H', Inv X pins σ' H' s' ∧ D.ct σ' H'
  | .ret u => ∃ v σ' H', Inv X pins σ' H' s' ∧ RelV v u ∧ D.rt v H'

def PE (X : Cx) (e : Expr) (t : TE) : Prop :=
  ∀ (pins : List (Addr × Obj)) (s : Shared) (σ : St) (H : Hp) (Q : VK), Inv X pins σ H s → t σ H Q → wpAny (model X.prog X.w) X.A (eval e X.env) (EP X pins σ Q) X.xe s
def PT (X : Cx) (e : Expr) (t : TT) : Prop :=
  ∀ (pins : List (Addr × Obj)) (s : Shared) (σ : St) (H : Hp) (Q : Bool → Hp → Prop), Inv X pins σ H s → t σ H Q → wpAny (model X.prog X.w) X.A (isTrue e X.env (eval e X.env)) (TP X pins σ Q) X.xe s
/-- a test whatever its 'whole' is (and, or) -/
def PW (X : Cx) (e : Expr) (t : TT) : Prop :=
  ∀ (whole : Sem Value) (pins : List (Addr × Obj)) (s : Shared) (σ : St) (H : Hp) (Q : Bool → Hp → Prop), Inv X pins σ H s → t σ H Q → wpAny (model X.prog X.w) X.A (isTrue e X.env whole) (TP X pins σ Q) X.xe s
theorem PW.pt {X : Cx} {e : Expr} {t : TT} (h : PW X e t) : PT X e t := h _
/-- an argument list (no star), from the left -/
def PA (X : Cx) (es : List Expr) (t : TA) : Prop :=
  ∀ (pos : Pos) (pins : List (Addr × Obj)) (s : Shared) (σ : St) (H : Hp) (Q : List V → Hp → Prop), Inv X pins σ H s → t σ H Q → wpAny (model X.prog X.w) X.A (spliced (backTo pos (starEach es X.env))) (AP X pins σ Q) X.xe s
def PS (X : Cx) (st : Stmt) (t : TS) : Prop :=
  ∀ (pins : List (Addr × Obj)) (s : Shared) (σ : St) (H : Hp) (D : Ends), Inv X pins σ H s → t D σ H → wpAny (model X.prog X.w) X.A (exec st X.env) (SP X pins D) X.xe s
def PSs (X : Cx) (st : List Stmt) (t : TS) : Prop :=
  ∀ (pins : List (Addr × Obj)) (s : Shared) (σ : St) (H : Hp) (D : Ends), Inv X pins σ H s → t D σ H → wpAny (model X.prog X.w) X.A (execs st X.env) (SP X pins D) X.xe s
/-- weaken the end -/
theorem thn {α : Type} {t : Sem α} {Q Q' : α → Shared → Prop} {M : Model} {A : Around} {E : Value → Shared → Prop} {s : Shared} (h : wpAny M A t Q E s) (hQ : ∀ a s, Q a s → Q' a s) : wpAny M A t Q' E s := wpAny_mono h hQ fun _ _ x => x
end L2

namespace L2
open PySem PySem.Spec PyProof.Rows
section
variable {X : Cx}

/-! ### names and constants -/
def tVar (i : Nat) : TE := fun σ H Q => ∃ v, σ[i]? = some (some v) ∧ Q v H
def tC (v : V) : TE := fun _ H Q => Q v H
theorem pe_var {i : Nat} {x : Str} {pos : Pos} (hN : X.N[i]? = some x) (hv : Vis X.env.scope x) (hd : (x == ("__debug__" : Str)) = false := by decide) (hcd : (x == ("__classdict__" : Str)) = false := by decide) : PE X (.Name x pos) (tVar i) := by
  intro pins s σ H Q I h
  obtain ⟨v, e, h⟩ := h
  obtain ⟨m, hn, hl⟩ := I.loc
  obtain ⟨u, r, l⟩ := hl i x v hN e hv
  have fin : EP X pins σ Q u s := ⟨v, H, I, r, h⟩
  rcases l with ⟨hk, hm⟩ | ⟨hk, c, hc, hcell⟩
  · exact wpAny_Name (wpAny_loadName_local I.ok.kind hk hn hm fin) hd
  · rcases hk with hk | hk
    · exact wpAny_Name (wpAny_loadName_cell I.ok.kind hk hc hcell fin) hd
    · exact wpAny_Name (wpAny_loadName_free I.ok.kind hk hc hcell fin hcd) hd
theorem pe_int {i j pos} : PE X (.Constant (.int i) j pos) (tC (.int i)) := fun _ _ _ H _ I h => wpAny_Constant_int ⟨.int i, H, I.tok _, ⟨_, rfl⟩, h⟩
theorem pe_bl {b j pos} : PE X (.Constant (.bool b) j pos) (tC (.bl b)) := fun _ _ _ H _ I h => Constant_bool ⟨.bl b, H, I, rfl, h⟩
theorem pe_non {j pos} : PE X (.Constant .none j pos) (tC .non) := fun _ _ _ H _ I h => Constant_none ⟨.non, H, I, rfl, h⟩
/-- a global name of the def -/
def Gl (X : Cx) (x : Str) : Prop := X.env.kindOf x = some .globalImplicit
theorem ld_glob {E : Value → Shared → Prop} {pins : List (Addr × Obj)} {s : Shared} {σ : St} {H : Hp} {x : Str} {u : Value} {pos : Pos} {Q : Value → Shared → Prop} (I : Inv X pins σ H s) (hg : Gl X x) (hm : X.mg x = some u) (h : Q u s)
    (hd : (x == ("__debug__" : Str)) = false := by decide) : wpAny (model X.prog X.w) X.A (eval (.Name x pos) X.env) Q E s :=
  Calls.Name_function_global I.ok.kind hg (Calls.loadGlobal_global (by rw [I.ok.glob]; exact I.mod.glob.keeps I.bk) hm h) hd
theorem ld_blt {E : Value → Shared → Prop} {pins : List (Addr × Obj)} {s : Shared} {σ : St} {H : Hp} {x : Str} {u : Value} {pos : Pos} {Q : Value → Shared → Prop} (I : Inv X pins σ H s) (hg : Gl X x) (hm : X.mg x = none) (hv : bootBuiltins x = some u) (h : Q u s)
    (hn : x ≠ "__name__" := by decide) (hd : (x == ("__debug__" : Str)) = false := by decide) : wpAny (model X.prog X.w) X.A (eval (.Name x pos) X.env) Q E s := by
  obtain ⟨mb, h1, h2⟩ := I.mod.blt
  exact Calls.Name_function_global I.ok.kind hg (Calls.loadGlobal_builtin (by rw [I.ok.glob]; exact I.mod.glob.keeps I.bk) hm (by rw [I.ok.blt]; exact h1.keeps I.bk) ((h2 x hn).trans hv) h) hd
/-! ### arithmetic -/
/-- two ints -/
def t2I (ta tb : TE) (k : Int → Int → Hp → Prop) : St → Hp → Prop := fun σ H => ta σ H fun x H1 => tb σ H1 fun y H2 => ∃ i j, x = .int i ∧ y = .int j ∧ k i j H2
def tAdd (ta tb : TE) : TE := fun σ H Q => t2I ta tb (fun i j H2 => Q (.int (i + j)) H2) σ H
def tSub (ta tb : TE) : TE := fun σ H Q => t2I ta tb (fun i j H2 => Q (.int (i - j)) H2) σ H
/-- the left factor below 2^64 -/
def tMul (ta tb : TE) : TE := fun σ H Q => t2I ta tb (fun i j H2 => (-(2 ^ 64) < i ∧ i < 2 ^ 64) ∧ Q (.int (i * j)) H2) σ H
variable {a b : Expr} {ta tb : TE} {pos : Pos}
/-! ### comparisons -/
def PC (X : Cx) (op : CmpOp) (a b : Expr) (t : TE) : Prop :=
  ∀ (pins : List (Addr × Obj)) (s : Shared) (σ : St) (H : Hp) (Q : VK), Inv X pins σ H s → t σ H Q →
    wpAny (model X.prog X.w) X.A (eval a X.env) (fun v s₁ => wpAny (model X.prog X.w) X.A (eval b X.env) (fun u s₂ => wpAny (model X.prog X.w) X.A (compareOp op v u) (EP X pins σ Q) X.xe s₂) X.xe s₁) X.xe s
theorem nobehind (b : Expr) {op : CmpOp} (h : op ≠ .In) (h2 : op ≠ .NotIn) : behindInMarks op b = false := by
  have e1 : (op == CmpOp.In) = false := by cases op <;> first | rfl | exact absurd rfl h
  have e2 : (op == CmpOp.NotIn) = false := by cases op <;> first | rfl | exact absurd rfl h2
  cases b <;> simp [behindInMarks, e1, e2]
def tCmp (p : Int → Int → Bool) (ta tb : TE) : TE := fun σ H Q => t2I ta tb (fun i j H2 => Q (.bl (p i j)) H2) σ H
abbrev tLt : TE → TE → TE := tCmp fun i j => decide (i < j)
abbrev tLe : TE → TE → TE := tCmp fun i j => decide (i ≤ j)
abbrev tGt : TE → TE → TE := tCmp fun i j => decide (j < i)
abbrev tGe : TE → TE → TE := tCmp fun i j => decide (j ≤ i)
abbrev tEqI : TE → TE → TE := tCmp fun i j => decide (i = j)
abbrev tNeI : TE → TE → TE := tCmp fun i j => !decide (i = j)
/-- is None -/
def tIsN (ta : TE) : TE := fun σ H Q => ta σ H fun x H1 => Q (.bl (decide (x = .non))) H1
def tNotN (ta : TE) : TE := fun σ H Q => ta σ H fun x H1 => Q (.bl (!decide (x = .non))) H1
theorem RelV.none_iff {x : V} {v : Value} (r : RelV x v) : (v == Value.none) = decide (x = .non) := by
  cases x with
  | non => cases r; rfl
  | bl _ => cases r; rfl
  | int _ => obtain ⟨t, rfl⟩ := r; rfl
  | str _ => obtain ⟨t, rfl⟩ := r; rfl
  | byt _ => obtain ⟨t, rfl⟩ := r; rfl
  | flt _ => obtain ⟨t, rfl⟩ := r; rfl
  | ref _ => cases r; rfl
  | ty _ => cases r; rfl
theorem pc_isN {j pos'} (ha : PE X a ta) : PC X .Is a (.Constant .none j pos') (tIsN ta) := by
  intro pins s σ H Q I h
  refine thn (ha pins s σ H _ I h) fun v s1 ⟨x, H1, I1, r1, q1⟩ => ?_
  exact Constant_none (is_none_gen ⟨.bl _, H1, I1, by rw [r1.none_iff]; rfl, q1⟩)
theorem pc_notN {j pos'} (ha : PE X a ta) : PC X .IsNot a (.Constant .none j pos') (tNotN ta) := by
  intro pins s σ H Q I h
  refine thn (ha pins s σ H _ I h) fun v s1 ⟨x, H1, I1, r1, q1⟩ => ?_
  exact Constant_none (isnot_none_gen ⟨.bl _, H1, I1, by rw [r1.none_iff]; rfl, q1⟩)
/-- a comparison as a value, as a test -/
def tB (t : TE) : TT := fun σ H Q => t σ H fun x H1 => ∃ c, x = .bl c ∧ Q c H1
theorem pe_cmp {op : CmpOp} {t : TE} (h : PC X op a b t) (h1 : behindInMarks op b = false := by first | exact nobehind _ (by decide) (by decide) | rfl) : PE X (.Compare a [op] [b] pos) t := fun pins s σ H Q I hw => wpAny_Compare1 (h pins s σ H Q I hw) h1
theorem pt_cmp {op : CmpOp} {t : TE} (h : PC X op a b t) (h1 : behindInMarks op b = false := by first | exact nobehind _ (by decide) (by decide) | rfl) : PT X (.Compare a [op] [b] pos) (tB t) := by
  intro pins s σ H Q I hw
  refine wpAny_isTrue_Compare1 (thn (h pins s σ H _ I hw) fun v s1 h1 => thn h1 fun u s2 h2 => thn h2 fun c s3 ⟨x, H1, I1, r1, q1⟩ => ?_) h1
  obtain ⟨d, rfl, q⟩ := q1
  cases r1
  exact wpAny_truthy_bool ⟨H1, I1, q⟩
/-- an expression whose value is a bool, as a test -/
theorem pt_val {e : Expr} {t : TE} (h : PE X e t) (he : ∀ whole, isTrue e X.env whole = (do let v ← whole; standAt e.pos; holding [v] (truthy v)) := by intro _; rfl) : PT X e (tB t) := by
  intro pins s σ H Q I hw
  refine isTrue_plain (thn (h pins s σ H _ I hw) fun v s1 ⟨x, H1, I1, r1, q1⟩ => ?_) (he _)
  obtain ⟨d, rfl, q⟩ := q1
  cases r1
  exact wpAny_truthy_bool ⟨H1, I1, q⟩

/-! ### and, or, not -/
variable {tA tB' : TT} {rest : List Expr}
def tAnd (t u : TT) : TT := fun σ H Q => t σ H fun c H1 => if c = true then u σ H1 Q else Q false H1
def tOr (t u : TT) : TT := fun σ H Q => t σ H fun c H1 => if c = true then Q true H1 else u σ H1 Q
def tNot (t : TT) : TT := fun σ H Q => t σ H fun c H1 => Q (!c) H1
theorem pw_and1 (ha : PT X a tA) : PW X (.BoolOp .And [a] pos) tA := by
  intro wh pins s σ H Q I h
  refine isTrue_and (thn (ha pins s σ H Q I h) fun c s1 e => ?_)
  cases c with
  | true => exact isTrue_and_nil e
  | false => exact e
theorem pw_or1 (ha : PT X a tA) : PW X (.BoolOp .Or [a] pos) tA := by
  intro wh pins s σ H Q I h
  refine isTrue_or (thn (ha pins s σ H Q I h) fun c s1 e => ?_)
  cases c with
  | false => exact isTrue_or_nil e
  | true => exact e
theorem pw_and (ha : PT X a tA) (hb : PW X (.BoolOp .And (b :: rest) pos) tB') : PW X (.BoolOp .And (a :: b :: rest) pos) (tAnd tA tB') := by
  intro wh pins s σ H Q I h
  refine isTrue_and (thn (ha pins s σ H _ I h) fun c s1 ⟨H1, I1, q1⟩ => ?_)
  cases c with
  | true => exact hb wh pins s1 σ H1 Q I1 q1
  | false => exact ⟨H1, I1, q1⟩
theorem pw_or (ha : PT X a tA) (hb : PW X (.BoolOp .Or (b :: rest) pos) tB') : PW X (.BoolOp .Or (a :: b :: rest) pos) (tOr tA tB') := by
  intro wh pins s σ H Q I h
  refine isTrue_or (thn (ha pins s σ H _ I h) fun c s1 ⟨H1, I1, q1⟩ => ?_)
  cases c with
  | true => exact ⟨H1, I1, q1⟩
  | false => exact hb wh pins s1 σ H1 Q I1 q1
theorem pt_not (ha : PT X a tA) : PT X (.UnaryOp .Not a pos) (tNot tA) := by
  intro pins s σ H Q I h
  exact isTrue_not (ha pins s σ H (fun c H1 => Q (!c) H1) I h)
/-- .. as values (bools) -/
def tAndV (ta tb : TE) : TE := fun σ H Q => ta σ H fun x H1 => ∃ c, x = .bl c ∧ if c = true then tb σ H1 Q else Q (.bl false) H1
def tOrV (ta tb : TE) : TE := fun σ H Q => ta σ H fun x H1 => ∃ c, x = .bl c ∧ if c = true then Q (.bl true) H1 else tb σ H1 Q
def tNotV (ta : TE) : TE := fun σ H Q => ta σ H fun x H1 => ∃ c, x = .bl c ∧ Q (.bl (!c)) H1
theorem pe_one {op} {t : TE} (h : PE X a t) : PE X (.BoolOp op [a] pos) t := fun pins s σ H Q I hw => BoolOp_one (h pins s σ H Q I hw)
theorem pe_and (ha : PE X a ta) (hb : PE X (.BoolOp .And (b :: rest) pos) tb) : PE X (.BoolOp .And (a :: b :: rest) pos) (tAndV ta tb) := by
  intro pins s σ H Q I h
  refine BoolOp_and (thn (ha pins s σ H _ I h) fun v s1 ⟨x, H1, I1, r1, q1⟩ => ?_)
  obtain ⟨c, rfl, q1⟩ := q1
  cases r1
  refine wpAny_truthy_bool ?_
  cases c with
  | true => exact hb pins s1 σ H1 Q I1 q1
  | false => exact ⟨.bl false, H1, I1, rfl, q1⟩
/-- a if t else b -/
def tIf (t : TT) (ta tb : TE) : TE := fun σ H Q => t σ H fun c H1 => if c = true then ta σ H1 Q else tb σ H1 Q
end
end L2

namespace L2
open PySem PySem.Spec PyProof.Rows

/-! ### a list, a tuple that is read: tracked, frozen, or an object of the module -/
def SqL (K : PySem.W.Frag) (H : Hp) (a : Addr) (xs : List V) : Prop :=
  Rd H a (.lst xs) ∨
    ∃ (o : Obj) (its : Array Value) (n : Nat), K.lookup a = some o ∧ o.cls = .type "list" ∧ o.dict = none ∧ o.data = .seq its n ∧ its.size ≤ sizeLine ∧ Vals xs its.toList
def SqT (K : PySem.W.Frag) (H : Hp) (a : Addr) (xs : List V) : Prop :=
  Rd H a (.tup xs) ∨
    ∃ (o : Obj) (its : Array Value) (n : Nat), K.lookup a = some o ∧ o.cls = .type "tuple" ∧ o.data = .seq its n ∧ its.size ≤ sizeLine ∧ Vals xs its.toList
def absV : Value → Option V
  | .none => some .non
  | .bool b => some (.bl b)
  | .int i _ => some (.int i)
  | .str x _ => some (.str x)
  | .bytes b _ => some (.byt b)
  | .float b _ => some (.flt b)
  | .ref a => some (.ref a)
  | .type n => some (.ty n)
  | _ => none
theorem RelV.abs {x : V} {u : Value} (r : RelV x u) : absV u = some x := by
  cases x with
  | non => cases r; rfl
  | bl _ => cases r; rfl
  | int _ => obtain ⟨t, rfl⟩ := r; rfl
  | str _ => obtain ⟨t, rfl⟩ := r; rfl
  | byt _ => obtain ⟨t, rfl⟩ := r; rfl
  | flt _ => obtain ⟨t, rfl⟩ := r; rfl
  | ref _ => cases r; rfl
  | ty _ => cases r; rfl
theorem RelV.inj {x y : V} {u : Value} (r : RelV x u) (q : RelV y u) : x = y := Option.some.inj (r.abs.symm.trans q.abs)
theorem Vals.inj : ∀ {xs ys : List V} {us : List Value}, Vals xs us → Vals ys us → xs = ys
  | _, _, _, .nil, .nil => rfl
  | _, _, _, .cons r t, .cons r' t' => by rw [r.inj r', Vals.inj t t']
section
variable {X : Cx} {pins : List (Addr × Obj)} {σ : St} {H : Hp} {s : Shared} {a : Addr} {xs ys : List V}
theorem SqL.of {K : PySem.W.Frag} (h : H a = some (.lst xs)) : SqL K H a xs := .inl (.inl h)
theorem SqT.of {K : PySem.W.Frag} (h : H a = some (.tup xs)) : SqT K H a xs := .inl (.inl h)
theorem Inv.list (I : Inv X pins σ H s) (h : SqL X.K H a xs) : ∃ its : List Value, Vals xs its ∧ PlainL s.heap a its.toArray ∧ xs.length ≤ sizeLine := by
  rcases h with h | ⟨o, its, n, hk, hc, hd, hs, hz, r⟩
  · obtain ⟨z, its, n, r, e⟩ := h.ok I.hok
    exact ⟨its, r, ⟨_, n, e, rfl, rfl, rfl⟩, z⟩
  · refine ⟨its.toList, r, ⟨o, n, I.kIn a o hk, hc, hd, by simpa using hs⟩, ?_⟩
    have e := r.length
    simp only [Array.length_toList] at e
    omega
theorem Inv.tuple (I : Inv X pins σ H s) (h : SqT X.K H a xs) : ∃ its : List Value, Vals xs its ∧ IsTup s.heap a its.toArray ∧ xs.length ≤ sizeLine := by
  rcases h with h | ⟨o, its, n, hk, hc, hs, hz, r⟩
  · obtain ⟨z, its, r, p⟩ := h.ok I.hok
    exact ⟨its, r, p, z⟩
  · refine ⟨its.toList, r, ⟨o, I.kIn a o hk, hc, n, by simpa using hs⟩, ?_⟩
    have e := r.length
    simp only [Array.length_toList] at e
    omega
theorem Inv.list_inj (I : Inv X pins σ H s) (h : SqL X.K H a xs) (h' : SqL X.K H a ys) : xs = ys := by
  obtain ⟨its, r, ⟨o, n, e, _, _, d⟩, _⟩ := I.list h
  obtain ⟨its', r', ⟨o', n', e', _, _, d'⟩, _⟩ := I.list h'
  rw [e] at e'; cases e'
  rw [d] at d'
  injection d' with d1 _
  have : its = its' := by simpa using congrArg Array.toList d1
  subst this
  exact r.inj r'
theorem Inv.tuple_inj (I : Inv X pins σ H s) (h : SqT X.K H a xs) (h' : SqT X.K H a ys) : xs = ys := by
  obtain ⟨its, r, ⟨o, e, _, n, d⟩, _⟩ := I.tuple h
  obtain ⟨its', r', ⟨o', e', _, n', d'⟩, _⟩ := I.tuple h'
  rw [e] at e'; cases e'
  rw [d] at d'
  injection d' with d1 _
  have : its = its' := by simpa using congrArg Array.toList d1
  subst this
  exact r.inj r'
end

/-! ### another wish about exceptions -/
abbrev Cx.wish (X : Cx) (E : Value → Shared → Prop) : Cx := { X with xe := E }
/-- no exception leaves -/
abbrev Cx.nox (X : Cx) : Cx := X.wish fun _ _ => False
theorem Cx.Ok.wish {X : Cx} (ok : X.Ok) (E : Value → Shared → Prop) : (X.wish E).Ok :=
  ⟨ok.mod, ok.kind, ok.glob, ok.blt, ok.above, ok.inj, ok.has, ok.cab, ok.hd, ok.frames, ok.stk, ok.exf, ok.bs, ok.bsz, ok.noex, ok.exfs, ok.funs, ok.frf⟩
theorem Cx.Ok.unwish {X : Cx} {E : Value → Shared → Prop} (ok : (X.wish E).Ok) : X.Ok :=
  ⟨ok.mod, ok.kind, ok.glob, ok.blt, ok.above, ok.inj, ok.has, ok.cab, ok.hd, ok.frames, ok.stk, ok.exf, ok.bs, ok.bsz, ok.noex, ok.exfs, ok.funs, ok.frf⟩
section
variable {X : Cx} {pins : List (Addr × Obj)} {σ : St} {H : Hp} {s : Shared} {E : Value → Shared → Prop}
theorem Inv.wish (I : Inv X pins σ H s) (E : Value → Shared → Prop) : Inv (X.wish E) pins σ H s := ⟨I.ok.wish E, I.os, I.bare, I.base, I.loc, I.cell, I.free, I.freeC, I.pin, I.hok, I.len⟩
theorem Inv.unwish (I : Inv (X.wish E) pins σ H s) : Inv X pins σ H s := ⟨I.ok.unwish, I.os, I.bare, I.base, I.loc, I.cell, I.free, I.freeC, I.pin, I.hok, I.len⟩
theorem SP.unwish {D : Ends} {f : Flow} {s' : Shared} (h : SP (X.wish E) pins D f s') : SP X pins D f s' := by
  cases f with
  | next => obtain ⟨σ', H', I, q⟩ := h; exact ⟨σ', H', I.unwish, q⟩
  | brk => obtain ⟨σ', H', I, q⟩ := h; exact ⟨σ', H', I.unwish, q⟩
  | cont => obtain ⟨σ', H', I, q⟩ := h; exact ⟨σ', H', I.unwish, q⟩
  | ret u => obtain ⟨v, σ', H', I, r, q⟩ := h; exact ⟨v, σ', H', I.unwish, r, q⟩
theorem PSs.nox {st : List Stmt} {t : TS} (h : PSs X.nox st t) : PSs X st t := fun pins s σ H D I hw =>
  wpAny_mono (h pins s σ H D (I.wish _) hw) (fun _ _ q => q.unwish) fun _ _ z => False.elim z
end

/-! ### blocks and small statements -/
section
variable {X : Cx} {st : Stmt} {rest : List Stmt} {t u : TS} {e : Expr} {te : TE} {pos : Pos}
def tNext : TS := fun D σ H => D.nx σ H
def tSeq (t u : TS) : TS := fun D σ H => t { D with nx := u D } σ H
theorem pss_nil : PSs X [] tNext := fun _ _ σ H _ I h => wpAny_execs_nil ⟨σ, H, I, h⟩
theorem pss_cons (h1 : PS X st t) (h2 : PSs X rest u) : PSs X (st :: rest) (tSeq t u) := by
  intro pins s σ H D I h
  refine wpAny_execs_cons (thn (h1 pins s σ H { D with nx := u D } I h) fun f s1 q => ?_)
  cases f with
  | next =>
    obtain ⟨σ', H', I', q⟩ := q
    exact h2 pins s1 σ' H' D I' q
  | ret v => exact q
  | brk => exact q
  | cont => exact q
theorem pss_one (h1 : PS X st t) : PSs X [st] t := by
  intro pins s σ H D I h
  refine wpAny_execs_cons (thn (h1 pins s σ H D I h) fun f s1 q => ?_)
  cases f with
  | next => exact wpAny_execs_nil q
  | ret v => exact q
  | brk => exact q
  | cont => exact q
def tBreak : TS := fun D σ H => D.bk σ H
def tCont : TS := fun D σ H => D.ct σ H
/-- in a def's body nothing is shown -/
theorem Inv.quiet {pins : List (Addr × Obj)} {σ : St} {H : Hp} {s : Shared} (I : Inv X pins σ H s) : interactive X.env = false := by simp [interactive, I.ok.kind]
/-- an expression whose value is dropped -/
def tDrop (te : TE) : TS := fun D σ H => te σ H fun _ H1 => D.nx σ H1
theorem ps_expr (he : PE X e te) (hs : swapsWith e none pos.line X.env = pure false := by rfl) : PS X (.Expr e pos) (tDrop te) := by
  intro pins s σ H D I h
  exact wpAny_Expr_any (thn (he pins s σ H _ I h) fun v s1 ⟨x, H1, I1, r1, q1⟩ => ⟨σ, H1, I1, q1⟩) I.quiet hs
def tRet (te : TE) : TS := fun D σ H => te σ H D.rt
theorem ps_ret (he : PE X e te) : PS X (.Return (some e) pos) (tRet te) := by
  intro pins s σ H D I h
  exact wpAny_Return_some (thn (he pins s σ H _ I h) fun v s1 ⟨x, H1, I1, r1, q1⟩ => ⟨x, σ, H1, I1, r1, q1⟩)
def tRetN : TS := fun D _ H => D.rt .non H
def tIfS (c : TT) (t u : TS) : TS := fun D σ H => c σ H fun b H1 => if b = true then t D σ H1 else u D σ H1
theorem ps_if {c : Expr} {a b : List Stmt} {tc : TT} (hc : PT X c tc) (ha : PSs X a t) (hb : PSs X b u) : PS X (.If c a b pos) (tIfS tc t u) := by
  intro pins s σ H D I h
  refine wpAny_If (thn (hc pins s σ H _ I h) fun d s1 ⟨H1, I1, q1⟩ => ?_)
  cases d with
  | true => exact ha pins s1 σ H1 D I1 q1
  | false => exact hb pins s1 σ H1 D I1 q1
/-- code that the proof never comes to -/
def tNever : TS := fun _ _ _ => False
end

/-! ### targets -/
abbrev TG := V → St → Hp → (St → Hp → Prop) → Prop
abbrev TGs := List V → St → Hp → (St → Hp → Prop) → Prop
def PG (X : Cx) (target : Expr) (t : TG) : Prop :=
  ∀ (pins : List (Addr × Obj)) (s : Shared) (σ : St) (H : Hp) (v : V) (u : Value) (Q : St → Hp → Prop), Inv X pins σ H s → RelV v u → t v σ H Q →
    wpAny (model X.prog X.w) X.A (assign target X.env u) (fun _ s' => ∃ σ' H', Inv X pins σ' H' s' ∧ Q σ' H') X.xe s
/-- several targets, one after another -/
def PGs (X : Cx) (ts : List Expr) (t : TGs) : Prop :=
  ∀ (pins : List (Addr × Obj)) (s : Shared) (σ : St) (H : Hp) (vs : List V) (us : List Value) (Q : St → Hp → Prop), Inv X pins σ H s → Vals vs us → t vs σ H Q →
    wpAny (model X.prog X.w) X.A (assignInOrder ((assignEach ts X.env).map (·.2)) us) (fun _ s' => ∃ σ' H', Inv X pins σ' H' s' ∧ Q σ' H') X.xe s
/-- o[i] = v, by values -/
abbrev TSet := V → V → V → Hp → (Hp → Prop) → Prop
def PSet (X : Cx) (t : TSet) : Prop :=
  ∀ (pins : List (Addr × Obj)) (s : Shared) (σ : St) (H : Hp) (o i v : V) (ov iv u : Value) (Q : Hp → Prop), Inv X pins σ H s → RelV o ov → RelV i iv → RelV v u → t o i v H Q →
    wpAny (model X.prog X.w) X.A (setItem ov iv u) (fun _ s' => ∃ H', Inv X pins σ H' s' ∧ Q H') X.xe s
/-- a op= b, by values -/
abbrev TIp := V → V → Hp → VK → Prop
def PIp (X : Cx) (op : Operator) (t : TIp) : Prop :=
  ∀ (pins : List (Addr × Obj)) (s : Shared) (σ : St) (H : Hp) (x y : V) (v u : Value) (Q : VK), Inv X pins σ H s → RelV x v → RelV y u → t x y H Q →
    wpAny (model X.prog X.w) X.A (inplaceOp op v u) (EP X pins σ Q) X.xe s
section
variable {X : Cx} {pos : Pos}
def gName (i : Nat) : TG := fun v σ H Q => Q (σ.set i (some v)) H
theorem pg_name {i : Nat} {x : Str} (hN : X.N.Nodup) (hi : X.N[i]? = some x) (hx : Loc X.env.scope x) (hf : X.fn x = true ∨ X.env.scope.names.lookup x = some .local := by first | exact .inl rfl | exact .inr rfl | assumption) : PG X (.Name x pos) (gName i) := by
  intro pins s σ H v u Q I r h
  exact wpAny_assign_Name (store_ok I hN hi hx r (fun s' I' => ⟨_, H, I', h⟩) hf)
def gNil : TGs := fun vs σ H Q => vs = [] ∧ Q σ H
def gCons (t : TG) (u : TGs) : TGs := fun vs σ H Q => ∃ v r, vs = v :: r ∧ t v σ H fun σ' H' => u r σ' H' Q
theorem pgs_nil : PGs X [] gNil := by
  intro pins s σ H vs us Q I r h
  obtain ⟨e, h⟩ := h
  subst e
  cases r
  exact assignInOrder_nil ⟨σ, H, I, h⟩
theorem pgs_cons {e : Expr} {es : List Expr} {t : TG} {u : TGs} (h1 : PG X e t) (h2 : PGs X es u)
    (hs : (assignEach (e :: es) X.env).map (·.2) = assign e X.env :: (assignEach es X.env).map (·.2) := by rfl) : PGs X (e :: es) (gCons t u) := by
  intro pins s σ H vs us Q I r h
  obtain ⟨v, vr, e1, h⟩ := h
  subst e1
  cases r with
  | cons r rr =>
    rw [hs]
    refine assignInOrder_cons (thn (h1 pins s σ H _ _ _ I r h) fun _ s1 ⟨σ1, H1, I1, q1⟩ => ?_)
    exact h2 pins s1 σ1 H1 _ _ Q I1 rr q1
/-- (a, b, ..) = a tuple of that length -/
def gTup (K : PySem.W.Frag) (n : Nat) (t : TGs) : TG := fun v σ H Q => ∃ a xs, v = .ref a ∧ SqT K H a xs ∧ xs.length = n ∧ t xs σ H Q
theorem pg_tup {es : List Expr} {k : Nat} {t : TGs} {n : Nat} (hc : X.calm = true) (h : PGs X es t)
    (hn : (assignEach es X.env).length = n := by rfl) (hst : (assignEach es X.env).findIdx? (·.1) = none := by rfl) : PG X (.Tuple es k pos) (gTup X.K n t) := by
  intro pins s σ H v u Q I r hw
  obtain ⟨a, xs, e1, hq, hl, hw⟩ := hw
  subst e1
  cases r
  obtain ⟨its, rv, ht, hz⟩ := I.tuple hq
  refine assign_Tuple_tuple (I.ok.hd hc) ht (by simp [hn, ← hl, rv.length]) hst fun h' hx => ?_
  have I1 : Inv X pins σ H { s with heap := h' } := I.kept (t' := s.toks) fun b o e => hx b o (Nat.ne_of_lt (Heap.lt_size e)) e
  exact h pins _ σ H xs _ Q I1 (by simpa using rv) hw
/-- o[i] = .. -/
def gSub (to ti : TE) (t : TSet) : TG := fun v σ H Q => to σ H fun o H1 => ti σ H1 fun i H2 => t o i v H2 fun H3 => Q σ H3
theorem pg_sub {o i : Expr} {to ti : TE} {t : TSet} (ho : PE X o to) (hi : PE X i ti) (hs : PSet X t)
    (ha : ∀ v, assign (.Subscript o i pos) X.env v = (do
      let ov ← holding [v] (eval o X.env)
      let iv ← holding [v, ov] (eval i X.env)
      standAt pos
      holding [v, ov, iv] (setItem ov iv v)
      release [v, ov, iv] []) := by intro _; rfl) : PG X (.Subscript o i pos) (gSub to ti t) := by
  intro pins s σ H v u Q I r h
  rw [ha]
  refine wpAny_bind (wpAny_holding (thn (ho pins s σ H _ I h) fun ov s1 ⟨x, H1, I1, r1, q1⟩ => ?_))
  refine wpAny_bind (wpAny_holding (thn (hi pins s1 σ H1 _ I1 q1) fun iv s2 ⟨y, H2, I2, r2, q2⟩ => ?_))
  refine wpAny_bind (wpAny_standAt (wpAny_bind (wpAny_holding (thn (hs pins s2 σ H2 x y v ov iv u _ I2 r1 r2 r q2) fun _ s3 ⟨H3, I3, q3⟩ => ?_))))
  exact wpAny_release ⟨σ, H3, I3, q3⟩
/-- target = value -/
def tAsg (te : TE) (g : TG) : TS := fun D σ H => te σ H fun x H1 => g x σ H1 D.nx
theorem ps_asg {tg e : Expr} {te : TE} {g : TG} (he : PE X e te) (hg : PG X tg g) (hs : swapsWithSole [tg] e pos.line X.env = pure false := by rfl) (hw : swappedStores [tg] e X.env = pure none := by rfl)
    (h1 : (assignEach [tg] X.env).map (·.2) = [assign tg X.env] := by rfl) : PS X (.Assign [tg] e pos) (tAsg te g) := by
  intro pins s σ H D I h
  refine wpAny_Assign_stores (thn (he pins s σ H _ I h) fun v s1 ⟨x, H1, I1, r1, q1⟩ => ?_) hs hw
  rw [h1]
  exact thn (hg pins s1 σ H1 x v _ I1 r1 q1) fun _ s2 q => q
/-- name = value -/
theorem ps_set {i : Nat} {x : Str} {e : Expr} {te : TE} {pos' : Pos} (hN : X.N.Nodup) (hi : X.N[i]? = some x) (hx : Loc X.env.scope x) (he : PE X e te) (hs : swapsWith e (some (.Name x pos')) pos.line X.env = pure false := by rfl) (hf : X.fn x = true ∨ X.env.scope.names.lookup x = some .local := by first | exact .inl rfl | exact .inr rfl | assumption) :
    PS X (.Assign [.Name x pos'] e pos) (tAsg te (gName i)) := by
  intro pins s σ H D I h
  refine wpAny_Assign_Name (thn (he pins s σ H _ I h) fun v s1 ⟨y, H1, I1, r1, q1⟩ => ?_) hs
  exact store_ok I1 hN hi hx r1 (fun s2 I2 => ⟨_, H1, I2, q1⟩) hf
/-- a, b = x, y with plain local names: stored from the right; the pair itself is not tracked (the opening rows as in PyProof/Rows/TupAssign.lean:23) -/
def tPar (i j : Nat) (ta : TA) : TS := fun D σ H => ta σ H fun vs H1 => ∃ v w, vs = [v, w] ∧ D.nx ((σ.set i (some v)).set j (some w)) H1
/-- name op= e -/
def tAug (i : Nat) (te : TE) (ti : TIp) : TS := fun D σ H => ∃ x, σ[i]? = some (some x) ∧ te σ H fun y H1 => ti x y H1 fun z H2 => D.nx (σ.set i (some z)) H2
theorem ps_aug {i : Nat} {x : Str} {e : Expr} {te : TE} {op : Operator} {ti : TIp} {pos' : Pos} (hN : X.N.Nodup) (hi : X.N[i]? = some x) (hx : Loc X.env.scope x) (he : PE X e te) (ho : PIp X op ti) (hf : X.fn x = true ∨ X.env.scope.names.lookup x = some .local := by first | exact .inl rfl | exact .inr rfl | assumption) :
    PS X (.AugAssign (.Name x pos') op e pos) (tAug i te ti) := by
  intro pins s σ H D I h
  obtain ⟨v, e1, h⟩ := h
  obtain ⟨m, hn, hl⟩ := I.loc
  have vis : Vis X.env.scope x := by rcases hx with k | k; exact .inl k; exact .inr (.inl k)
  obtain ⟨u, r, l⟩ := hl i x v hi e1 vis
  refine wpAny_AugAssign_Name ?_
  have go : wpAny (model X.prog X.w) X.A (eval e X.env) (fun w s₂ => wpAny (model X.prog X.w) X.A (inplaceOp op u w) (fun r s₃ => wpAny (model X.prog X.w) X.A (storeName X.env x r) (fun _ => SP X pins D .next) X.xe s₃) X.xe s₂) X.xe s := by
    refine thn (he pins s σ H _ I h) fun w s1 ⟨y, H1, I1, r1, q1⟩ => ?_
    refine thn (ho pins s1 σ H1 v y u w _ I1 r r1 q1) fun z s2 ⟨zv, H2, I2, r2, q2⟩ => ?_
    exact store_ok I2 hN hi hx r2 (fun s3 I3 => ⟨_, H2, I3, q2⟩) hf
  rcases l with ⟨hk, hm⟩ | ⟨hk, c, hc, hcell⟩
  · exact wpAny_loadName_local I.ok.kind hk hn hm go
  · rcases hk with hk | hk
    · exact wpAny_loadName_cell I.ok.kind hk hc hcell go
    · rcases hx with k | k
      · have : X.env.scope.names.lookup x = some .free := hk
        rw [k] at this; cases this
      · have : X.env.scope.names.lookup x = some .free := hk
        rw [k] at this; cases this
/-- o[i] op= e -/
def tAugS (to ti te : TE) (tget : V → V → Hp → VK → Prop) (tip : TIp) (tset : TSet) : TS := fun D σ H => to σ H fun o H1 => ti σ H1 fun i H2 => tget o i H2 fun x H3 => te σ H3 fun y H4 => tip x y H4 fun z H5 => tset o i z H5 fun H6 => D.nx σ H6
/-- o[i], by values -/
def PGet (X : Cx) (t : V → V → Hp → VK → Prop) : Prop :=
  ∀ (pins : List (Addr × Obj)) (s : Shared) (σ : St) (H : Hp) (o i : V) (ov iv : Value) (Q : VK), Inv X pins σ H s → RelV o ov → RelV i iv → t o i H Q →
    wpAny (model X.prog X.w) X.A (getItem ov iv) (EP X pins σ Q) X.xe s
/-- ints -/
def ipI (f : Int → Int → Int) : TIp := fun x y H Q => ∃ i j, x = .int i ∧ y = .int j ∧ Q (.int (f i j)) H
end

/-! ### while -/
section
variable {X : Cx} {pos : Pos}
/-- the invariant W with its measure -/
def tWhile (c : TT) (tb : TS) : TS := fun D σ H => ∃ W : Nat → St → Hp → Prop, (∃ m, W m σ H) ∧ ∀ m σ H, W m σ H →
  c σ H fun b H1 => if b = true then ∃ N : St → Hp → Prop, (∀ σ' H', N σ' H' → ∃ m', m' < m ∧ W m' σ' H') ∧ tb { D with nx := N, ct := N, bk := D.nx } σ H1 else D.nx σ H1
theorem ps_while {c : Expr} {body : List Stmt} {tc : TT} {tb : TS} (hp : PassesOwn (model X.prog X.w) X.A X.env X.xe) (hc : PT X c tc) (hb : PSs X body tb) : PS X (.While c body [] pos) (tWhile tc tb) := by
  intro pins s σ H D I h
  obtain ⟨W, ⟨m0, w0⟩, turn⟩ := h
  refine wpAny_While (codeAny_whileLoop (fun n s' => ∃ σ' H', Inv X pins σ' H' s' ∧ W n σ' H') ?_ m0 ⟨σ, H, I, w0⟩)
  rintro n s1 ⟨σ1, H1, I1, w1⟩
  refine wpAny_passesOwn hp (thn (hc pins s1 σ1 H1 _ I1 (turn n σ1 H1 w1)) fun b s2 ⟨H2, I2, q2⟩ => ?_)
  cases b with
  | true =>
    obtain ⟨N, hN, q2⟩ := q2
    rw [if_pos rfl]
    refine wpAny_passesOwn hp (thn (hb pins s2 σ1 H2 _ I2 q2) fun f s3 q3 => ?_)
    cases f with
    | next =>
      obtain ⟨σ3, H3, I3, n3⟩ := q3
      obtain ⟨m', hm, w3⟩ := hN σ3 H3 n3
      exact ⟨m', hm, σ3, H3, I3, w3⟩
    | cont =>
      obtain ⟨σ3, H3, I3, n3⟩ := q3
      obtain ⟨m', hm, w3⟩ := hN σ3 H3 n3
      exact ⟨m', hm, σ3, H3, I3, w3⟩
    | brk => exact q3
    | ret v => exact q3
  | false =>
    rw [if_neg Bool.false_ne_true]
    exact wpAny_execs_nil ⟨σ1, H2, I2, q2⟩
end

/-! ### what a loop or a comprehension walks -/
/-- at turn i: it yields x (the heap may grow), or it stops -/
structure It where
  go : Nat → Hp → Prop
  yld : Nat → Hp → V → Hp → Prop
  stop : Nat → Hp → Prop
/-- the iterator's own objects may turn: they are not the frame's, not pinned, younger than the entry (or a comprehension's own) -/
def FpOk (X : Cx) (pins : List (Addr × Obj)) (H : Hp) (b : Addr) : Prop :=
  H b = none ∧ b ≠ X.env.locals ∧ b ∉ X.fs ∧ (b ∈ X.ex ∨ X.s₀.heap.objs.size ≤ b) ∧ (∀ x c, X.env.cells.lookup x = some c → c ≠ b) ∧ ∀ p ∈ X.pn ++ pins, p.1 ≠ b
theorem Inv.fpOk {X : Cx} {pins : List (Addr × Obj)} {σ : St} {H H' : Hp} {s : Shared} {b : Addr} (I : Inv X pins σ H s) (hb : s.heap.objs.size ≤ b) (hn : H' b = none) : FpOk X pins H' b := by
  refine ⟨hn, Nat.ne_of_gt (Nat.lt_of_lt_of_le I.lt hb), I.nofs hb, .inr (Nat.le_trans I.sz hb), fun x c e z => ?_, fun p hp z => ?_⟩
  · obtain ⟨v, q⟩ := I.cell x c e
    exact absurd (Nat.lt_of_lt_of_le q.lt (by rw [z]; exact hb)) (Nat.lt_irrefl _)
  · exact absurd (Nat.lt_of_lt_of_le (Heap.lt_size (I.pin p hp).1) (by rw [z]; exact hb)) (Nat.lt_irrefl _)
structure Turn (P : Program) (w : World) (K : PySem.W.Frag) (tg : Expr) (J : It) (fp : List Addr) (it : Addr) (tn : Nat → Heap → Prop) : Prop where
  mem : it ∈ fp
  obj : ∀ i h, tn i h → ∀ b ∈ fp, ∃ o, h.get? b = some o ∧ ∀ v, o.data ≠ .cell v
  keep : ∀ i h h', tn i h → (∀ b ∈ fp, ∀ o, h.get? b = some o → h'.get? b = some o) → tn i h'
  item : ∀ (X : Cx), X.prog = P → X.w = w → X.K = K → X.calm = true → ∀ (i : Nat) (pins : List (Addr × Obj)) (s : Shared) (σ : St) (H : Hp) (E : Value → Shared → Prop), Inv X pins σ H s → (∀ b ∈ fp, FpOk X pins H b) → tn i s.heap → J.go i H →
    wpAny (model P w) X.A (pyNext (.ref it)) (fun r s1 => ∃ u, r = some u ∧
      wpAny (model P w) X.A (letOwnedTupleGo tg (.ref it) u) (fun _ s2 => ∃ x H', Inv X pins σ H' s2 ∧ RelV x u ∧ J.yld i H x H' ∧ tn (i + 1) s2.heap ∧ ∀ b ∈ fp, H' b = none) E s1) E s
  done : ∀ (X : Cx), X.prog = P → X.w = w → X.K = K → X.calm = true → ∀ (i : Nat) (pins : List (Addr × Obj)) (s : Shared) (σ : St) (H : Hp) (E : Value → Shared → Prop), Inv X pins σ H s → (∀ b ∈ fp, FpOk X pins H b) → tn i s.heap → J.stop i H →
    wpAny (model P w) X.A (pyNext (.ref it)) (fun r s1 => r = none ∧ Inv X pins σ H s1) E s
  self : ∀ (A : Around) (i : Nat) (s : Shared) (Q : Value → Shared → Prop) (E : Value → Shared → Prop), tn i s.heap → Q (.ref it) s → wpAny (model P w) A (pyIter (.ref it)) Q E s
abbrev TI := St → Hp → (It → Hp → Prop) → Prop
/-- an iterator has come -/
def PIE (X : Cx) (pins : List (Addr × Obj)) (σ : St) (tg : Expr) (R : It → Hp → Prop) (itv : Value) (s2 : Shared) : Prop :=
  ∃ (it : Addr) (fp : List Addr) (tn : Nat → Heap → Prop) (J : It) (H' : Hp), itv = .ref it ∧ Inv X pins σ H' s2 ∧ Turn X.prog X.w X.K tg J fp it tn ∧ tn 0 s2.heap ∧ (∀ b ∈ fp, FpOk X pins H' b) ∧ R J H'
def PI (X : Cx) (tg iter : Expr) (wi : TI) : Prop :=
  ∀ (pins : List (Addr × Obj)) (s : Shared) (σ : St) (H : Hp) (R : It → Hp → Prop), Inv X pins σ H s → wi σ H R →
    wpAny (model X.prog X.w) X.A (eval iter X.env) (fun v s1 => wpAny (model X.prog X.w) X.A (pyIter v) (PIE X pins σ tg R) X.xe s1) X.xe s

/-- the step ahead of the store is nothing for an iterator that keeps no tuple -/
theorem go_of {M : Model} {A : Around} {E : Value → Shared → Prop} {s : Shared} {tg : Expr} {it : Addr} {u : Value} {o : Obj} {n : String} {vs : Array Value} {Q : Unit → Shared → Prop} (ho : s.heap.get? it = some o) (hc : o.cls = .type n) (hd : o.data = .fields vs)
    (hn : ["enumerate", "zip", "dict_itemiterator", "dict_reverseitemiterator", "odict_iterator", "itertools.zip_longest", "itertools.pairwise"].contains n = false) (hQ : Q () s) : wpAny M A (letOwnedTupleGo tg (.ref it) u) Q E s := by
  unfold letOwnedTupleGo
  cases tg <;> first
    | exact wpAny_pure hQ
    | (cases u <;> first
        | exact wpAny_pure hQ
        | (refine wpAny_bind (wpAny_load ho ?_)
           rw [hc, hd]
           show wpAny M A (if (["enumerate", "zip", "dict_itemiterator", "dict_reverseitemiterator", "odict_iterator", "itertools.zip_longest", "itertools.pairwise"].contains n && vs[0]? == some (rawInt _)) = true then _ else _) Q E s
           rw [if_neg (by intro h; rw [hn, Bool.false_and] at h; cases h)]
           exact wpAny_pure hQ))

/-- the list at a, as it stands at each turn (a loop may append to it) -/
def Itl (K : PySem.W.Frag) (a : Addr) : It :=
  ⟨fun i H => ∃ xs x, SqL K H a xs ∧ xs[i]? = some x, fun i H x H' => H' = H ∧ ∀ xs, SqL K H a xs → xs[i]? = some x, fun i H => ∃ xs, SqL K H a xs ∧ xs.length ≤ i⟩
def Itt (K : PySem.W.Frag) (a : Addr) : It :=
  ⟨fun i H => ∃ xs x, SqT K H a xs ∧ xs[i]? = some x, fun i H x H' => H' = H ∧ ∀ xs, SqT K H a xs → xs[i]? = some x, fun i H => ∃ xs, SqT K H a xs ∧ xs.length ≤ i⟩
/-- lo, lo + 1, .. (n of them) -/
def Itr (lo : Int) (n : Nat) : It := ⟨fun i _ => i < n, fun i H x H' => H' = H ∧ x = .int (lo + i), fun i _ => n ≤ i⟩
theorem turn_list {P : Program} {w : World} {K : PySem.W.Frag} {tg : Expr} (a it : Addr) : Turn P w K tg (Itl K a) [it] it (fun i h => h.IsListIter it a i) where
  mem := by simp
  obj := fun i h st b hb => by
    have e : b = it := by simpa using hb
    subst e
    obtain ⟨o, e, c, d⟩ := st
    exact ⟨o, e, fun v z => by rw [d] at z; cases z⟩
  keep := fun i h h' st k => st.at fun o e => k it (by simp) o e
  item := by
    intro X hP hw hK hc i pins s σ H E I hf st hg
    subst hP hw hK
    obtain ⟨xs, x, hq, hx⟩ := hg
    obtain ⟨its, rv, p, hz⟩ := I.list hq
    obtain ⟨u, hu, ru⟩ := rv.get hx
    obtain ⟨f0, f1, f2, f3, f4, f5⟩ := hf it (by simp)
    refine wpAny_pyNext_list_item st p.isList (x := u) (by simpa using hu) fun h' st' sb => ?_
    have I1 : Inv X pins σ H { s with heap := h' } := I.turned (t' := s.toks) (fun b o hb e => (sb.2 b hb).trans e) f0 f1 f3 f4 f5
    obtain ⟨o, e, c, d⟩ := id st'
    exact ⟨u, rfl, go_of (s := { s with heap := h' }) e c d (by decide) ⟨x, H, I1, ru, ⟨rfl, fun ys hy => by rw [I.list_inj hy hq]; exact hx⟩, st', fun b hb => (hf b hb).1⟩⟩
  done := by
    intro X hP hw hK hc i pins s σ H E I hf st hg
    subst hP hw hK
    obtain ⟨xs, hq, hx⟩ := hg
    obtain ⟨its, rv, p, hz⟩ := I.list hq
    obtain ⟨f0, f1, f2, f3, f4, f5⟩ := hf it (by simp)
    have hl := rv.length
    exact wpAny_pyNext_list_end (I.ok.hd hc) st p.isList (by simp; omega) fun h' eb => ⟨rfl, I.turned (t' := s.toks) (fun b o hb e => eb b o hb e) f0 f1 f3 f4 f5⟩
  self := fun _ _ _ _ _ st h => wpAny_pyIter_listiter st h
theorem turn_tuple {P : Program} {w : World} {K : PySem.W.Frag} {tg : Expr} (a it : Addr) : Turn P w K tg (Itt K a) [it] it (fun i h => h.IsTupleIter it a i) where
  mem := by simp
  obj := fun i h st b hb => by
    have e : b = it := by simpa using hb
    subst e
    obtain ⟨o, e, c, d⟩ := st
    exact ⟨o, e, fun v z => by rw [d] at z; cases z⟩
  keep := fun i h h' st k => st.at fun o e => k it (by simp) o e
  item := by
    intro X hP hw hK hc i pins s σ H E I hf st hg
    subst hP hw hK
    obtain ⟨xs, x, hq, hx⟩ := hg
    obtain ⟨its, rv, p, hz⟩ := I.tuple hq
    obtain ⟨u, hu, ru⟩ := rv.get hx
    obtain ⟨f0, f1, f2, f3, f4, f5⟩ := hf it (by simp)
    refine wpAny_pyNext_tuple_item st (show s.heap.IsTuple a its.toArray from p) (x := u) (by simpa using hu) fun h' st' sb => ?_
    have I1 : Inv X pins σ H { s with heap := h' } := I.turned (t' := s.toks) (fun b o hb e => (sb.2 b hb).trans e) f0 f1 f3 f4 f5
    obtain ⟨o, e, c, d⟩ := id st'
    exact ⟨u, rfl, go_of (s := { s with heap := h' }) e c d (by decide) ⟨x, H, I1, ru, ⟨rfl, fun ys hy => by rw [I.tuple_inj hy hq]; exact hx⟩, st', fun b hb => (hf b hb).1⟩⟩
  done := by
    intro X hP hw hK hc i pins s σ H E I hf st hg
    subst hP hw hK
    obtain ⟨xs, hq, hx⟩ := hg
    obtain ⟨its, rv, p, hz⟩ := I.tuple hq
    obtain ⟨f0, f1, f2, f3, f4, f5⟩ := hf it (by simp)
    have hl := rv.length
    exact wpAny_pyNext_tuple_end (I.ok.hd hc) st (show s.heap.IsTuple a its.toArray from p) (by simp; omega) fun h' eb => ⟨rfl, I.turned (t' := s.toks) (fun b o hb e => eb b o hb e) f0 f1 f3 f4 f5⟩
  self := fun _ _ _ _ _ st h => wpAny_pyIter_tupleiter st h
theorem turn_range {P : Program} {w : World} {K : PySem.W.Frag} {tg : Expr} (it : Addr) (lo : Int) (n : Nat) : Turn P w K tg (Itr lo n) [it] it (fun i h => IsRangeIter h it (lo + (i : Nat) * 1) ((n : Int) - (i : Nat)) 1) where
  mem := by simp
  obj := fun i h st b hb => by
    have e : b = it := by simpa using hb
    subst e
    exact ⟨_, st, fun v z => by
      have z' : Data.fields _ = Data.cell v := z
      cases z'⟩
  keep := fun i h h' st k => k it (by simp) _ st
  item := by
    intro X hP hw hK hc i pins s σ H E I hf st hg
    subst hP hw hK
    obtain ⟨f0, f1, f2, f3, f4, f5⟩ := hf it (by simp)
    have W := Walks.range (prog := X.prog) (w := X.w) (I.ok.hd hc) it lo 1 n
    refine W.item i s _ _ hg st fun v h' tk hv st' kk => ?_
    obtain ⟨t, rfl⟩ := hv
    have I1 : Inv X pins σ H { s with heap := h', toks := tk } := I.turned (fun b o hb e => kk b o (by simpa using hb) e) f0 f1 f3 f4 f5
    refine ⟨_, rfl, go_of (s := { s with heap := h', toks := tk }) (n := "range_iterator") st' rfl rfl (by decide) ⟨.int (lo + i), H, I1, ⟨t, ?_⟩, ⟨rfl, rfl⟩, st', fun b hb => (hf b hb).1⟩⟩
    rw [Int.mul_one]
  done := by
    intro X hP hw hK hc i pins s σ H E I hf st hg
    subst hP hw hK
    obtain ⟨f0, f1, f2, f3, f4, f5⟩ := hf it (by simp)
    exact wpAny_pyNext_range_end (I.ok.hd hc) st (by have : n ≤ i := hg; omega) fun h' eb => ⟨rfl, I.turned (t' := s.toks) (fun b o hb e => eb b o hb e) f0 f1 f3 f4 f5⟩
  self := fun _ _ _ _ _ st h => wpAny_pyIter_rangeiter st h
end L2

namespace L2
open PySem PySem.Spec PyProof.Rows
section
variable {X : Cx} {tg : Expr}
def iList (K : PySem.W.Frag) (tl : TE) : TI := fun σ H R => tl σ H fun x H1 => ∃ a, x = .ref a ∧ (∃ xs, SqL K H1 a xs) ∧ R (Itl K a) H1
def iTup (K : PySem.W.Frag) (tl : TE) : TI := fun σ H R => tl σ H fun x H1 => ∃ a, x = .ref a ∧ (∃ xs, SqT K H1 a xs) ∧ R (Itt K a) H1
theorem pi_list {l : Expr} {tl : TE} (hl : PE X l tl) : PI X tg l (iList X.K tl) := by
  intro pins s σ H R I h
  refine thn (hl pins s σ H _ I h) fun v s1 ⟨x, H1, I1, r1, q1⟩ => ?_
  obtain ⟨a, e, ⟨xs, hq⟩, q⟩ := q1
  subst e
  cases r1
  obtain ⟨its, rv, p, hz⟩ := I1.list hq
  refine wpAny_pyIter_list p.isList ?_
  refine ⟨s1.heap.objs.size, [s1.heap.objs.size], _, _, H1, rfl, I1.kept (t' := s1.toks) fun b o e => Heap.get?_push_of_some _ e, turn_list a _, ⟨_, Heap.get?_push_size _ rfl, rfl, rfl⟩, fun b hb => ?_, q⟩
  have e : b = s1.heap.objs.size := by simpa using hb
  subst e
  exact I1.fpOk (Nat.le_refl _) (I1.hok.fresh (Nat.le_refl _))
theorem pi_tup {l : Expr} {tl : TE} (hl : PE X l tl) : PI X tg l (iTup X.K tl) := by
  intro pins s σ H R I h
  refine thn (hl pins s σ H _ I h) fun v s1 ⟨x, H1, I1, r1, q1⟩ => ?_
  obtain ⟨a, e, ⟨xs, hq⟩, q⟩ := q1
  subst e
  cases r1
  obtain ⟨its, rv, p, hz⟩ := I1.tuple hq
  refine wpAny_pyIter_tuple (show s1.heap.IsTuple a its.toArray from p) ?_
  refine ⟨s1.heap.objs.size, [s1.heap.objs.size], _, _, H1, rfl, I1.kept (t' := s1.toks) fun b o e => Heap.get?_push_of_some _ e, turn_tuple a _, ⟨_, Heap.get?_push_size _ rfl, rfl, rfl⟩, fun b hb => ?_, q⟩
  have e : b = s1.heap.objs.size := by simpa using hb
  subst e
  exact I1.fpOk (Nat.le_refl _) (I1.hok.fresh (Nat.le_refl _))
/-- a range object just made, walked -/
theorem range_it {pins : List (Addr × Obj)} {σ : St} {H : Hp} {s : Shared} {R : It → Hp → Prop} {E : Value → Shared → Prop} {lo hi : Int} {t u v : Tok} {tk : Nat} (I : Inv X pins σ H s) (h1 : -(2 ^ 62) ≤ lo) (h2 : lo < 2 ^ 62) (h3 : -(2 ^ 62) ≤ hi) (h4 : hi < 2 ^ 62)
    (q : R (Itr lo (hi - lo).toNat) H) : wpAny (model X.prog X.w) X.A (pyIter (.ref s.heap.objs.size)) (PIE X pins σ tg R) E { s with heap := s.heap.push { cls := .type "range", data := .fields #[.int lo t, .int hi u, .int 1 v] }, toks := tk } := by
  refine wpAny_pyIter_range (IsRange.new ..) (small_one h1 h2 h3 h4) ?_
  have I1 : Inv X pins σ H { s with heap := s.heap.push { cls := .type "range", data := .fields #[.int lo t, .int hi u, .int 1 v] }, toks := tk } := I.kept fun b o e => Heap.get?_push_of_some _ e
  refine ⟨(s.heap.push { cls := .type "range", data := .fields #[.int lo t, .int hi u, .int 1 v] }).objs.size, [(s.heap.push { cls := .type "range", data := .fields #[.int lo t, .int hi u, .int 1 v] }).objs.size], _, _, H, rfl,
    I1.kept (t' := tk) fun b o e => Heap.get?_push_of_some _ e, turn_range _ lo (hi - lo).toNat, ?_, fun b hb => ?_, q⟩
  · have e1 : lo + ((0 : Nat) : Int) * 1 = lo := by simp
    have e2 : (((hi - lo).toNat : Nat) : Int) - ((0 : Nat) : Int) = Builtin.Range.rangeSize lo hi 1 := by rw [rangeSize_one]; split <;> omega
    show IsRangeIter _ _ (lo + ((0 : Nat) : Int) * 1) ((((hi - lo).toNat : Nat) : Int) - ((0 : Nat) : Int)) 1
    rw [e1, e2]
    exact Heap.get?_push_size _ rfl
  · have e : b = (s.heap.push { cls := .type "range", data := .fields #[.int lo t, .int hi u, .int 1 v] }).objs.size := by simpa using hb
    subst e
    exact I1.fpOk (Nat.le_refl _) (I1.hok.fresh (Nat.le_refl _))
def iRng1 (ta : TA) : TI := fun σ H R => ta σ H fun vs H1 => ∃ j : Int, vs = [.int j] ∧ -(2 ^ 62) ≤ j ∧ j < 2 ^ 62 ∧ R (Itr 0 j.toNat) H1
def iRng2 (ta : TA) : TI := fun σ H R => ta σ H fun vs H1 => ∃ i j : Int, vs = [.int i, .int j] ∧ (-(2 ^ 62) ≤ i ∧ i < 2 ^ 62 ∧ -(2 ^ 62) ≤ j ∧ j < 2 ^ 62) ∧ R (Itr i (j - i).toNat) H1
theorem pi_range1 {a : Expr} {ta : TA} {p pos : Pos} (hg : Gl X "range") (hm : X.mg "range" = none) (ha : PA X [a] ta) (hs : starEach [a] X.env = [(false, eval a X.env)] := by rfl) : PI X tg (.Call (.Name "range" p) [a] [] pos) (iRng1 ta) := by
  intro pins s σ H R I h
  refine Call_ (ld_blt I hg hm boot_range (PyProof.Rows.callWith_type1 (thn (ha pos pins s σ H _ I h) fun us s1 ⟨vs, H1, I1, r1, q1⟩ => ?_) hs rfl))
  obtain ⟨j, e, q1, q2, q⟩ := q1
  subst e
  cases r1 with
  | cons r rr =>
    cases rr
    obtain ⟨t, rfl⟩ := r
    exact call_range_1 (range_it I1 (by omega) (by omega) q1 q2 (by simpa using q))
/-! ### for -/
/-- W: the invariant by the turn and a measure; N: what the body is to reach -/
def tFor (wi : TI) (g : TG) (tb : TS) : TS := fun D σ H => wi σ H fun J H1 => ∃ W : Nat → Nat → St → Hp → Prop, (∃ m, W 0 m σ H1) ∧ ∀ i m σ H, W i m σ H →
  (J.stop i H ∧ D.nx σ H) ∨ (J.go i H ∧ ∃ N : St → Hp → Prop, (∀ σ' H', N σ' H' → ∃ m', m' < m ∧ W (i + 1) m' σ' H') ∧ ∀ x H', J.yld i H x H' → g x σ H' fun σ2 H2 => tb { D with nx := N, ct := N, bk := D.nx } σ2 H2)
/-- the records at fp as they stand -/
def pinsAt (fp : List Addr) (h : Heap) : List (Addr × Obj) := fp.filterMap fun b => (h.get? b).map fun o => (b, o)
theorem mem_pinsAt {fp : List Addr} {h : Heap} {b : Addr} {o : Obj} (hb : b ∈ fp) (e : h.get? b = some o) : (b, o) ∈ pinsAt fp h := List.mem_filterMap.mpr ⟨b, hb, by rw [e]; rfl⟩
theorem of_pinsAt {fp : List Addr} {h : Heap} {p : Addr × Obj} (hp : p ∈ pinsAt fp h) : p.1 ∈ fp ∧ h.get? p.1 = some p.2 := by
  obtain ⟨b, hb, e⟩ := List.mem_filterMap.mp hp
  cases q : h.get? b with
  | none => rw [q] at e; cases e
  | some o =>
    rw [q] at e
    have e' : (b, o) = p := Option.some.inj e
    subst e'
    exact ⟨hb, q⟩
theorem Inv.pinned {pins : List (Addr × Obj)} {σ : St} {H : Hp} {s : Shared} {fp : List Addr} (I : Inv X pins σ H s) (hf : ∀ b ∈ fp, FpOk X pins H b) (ho : ∀ b ∈ fp, ∃ o, s.heap.get? b = some o ∧ ∀ v, o.data ≠ .cell v) : Inv X (pins ++ pinsAt fp s.heap) σ H s :=
  I.pins_of fun p hp => (List.mem_append.mp hp).elim (fun z => I.pin p (List.mem_append_right _ z)) fun z => by
    obtain ⟨hb, e⟩ := of_pinsAt z
    obtain ⟨f0, f1, f2, _⟩ := hf p.1 hb
    obtain ⟨o, e', d⟩ := ho p.1 hb
    rw [e] at e'; cases e'
    exact ⟨e, f0, f1, f2, d⟩
theorem Inv.unpinned {pins pl : List (Addr × Obj)} {σ : St} {H : Hp} {s : Shared} (I : Inv X (pins ++ pl) σ H s) : Inv X pins σ H s := I.pins_of fun p hp => I.pin p (List.mem_append_right _ (List.mem_append_left _ hp))
theorem ps_for {iter : Expr} {body : List Stmt} {wi : TI} {g : TG} {tb : TS} {pos : Pos} (hp : PassesOwn (model X.prog X.w) X.A X.env X.xe) (hc : X.calm = true) (hi : PI X tg iter wi) (hg : PG X tg g) (hb : PSs X body tb)
    (hs : ∀ x, foldedSetIterable iter X.env x = pure x := by intro _; rfl) : PS X (.For tg iter body [] pos) (tFor wi g tb) := by
  intro pins s σ H D I h
  refine wpAny_For (thn (hi pins s σ H _ I h) fun v s1 h1 => thn h1 fun itv s2 h2 => ?_) hs
  obtain ⟨it, fp, tn, J, H2, e, I2, T, st2, f2, W, ⟨m0, w0⟩, turn⟩ := h2
  subst e
  -- what stays true of the iterator's objects through the loop
  have stat : ∀ {H' : Hp}, (∀ b ∈ fp, H' b = none) → ∀ b ∈ fp, FpOk X pins H' b := fun hn b hb => ⟨hn b hb, (f2 b hb).2⟩
  refine codeAny_forLoop_any (fun n s' => ∃ i σ' H', Inv X pins σ' H' s' ∧ tn i s'.heap ∧ (∀ b ∈ fp, H' b = none) ∧ W i n σ' H') ?_ m0 ⟨0, σ, H2, I2, st2, fun b hb => (f2 b hb).1, w0⟩
  rintro n s3 ⟨i, σ3, H3, I3, st3, fr3, w3⟩
  rcases turn i n σ3 H3 w3 with ⟨stop, qn⟩ | ⟨go, N, hN, step⟩
  · refine wpAny_passesOwn hp (thn (T.done X rfl rfl rfl hc i pins s3 σ3 H3 X.xe I3 (stat fr3) st3 stop) fun r s4 ⟨hr, I4⟩ => ?_)
    subst hr
    exact wpAny_execs_nil ⟨σ3, H3, I4, qn⟩
  · refine wpAny_passesOwn hp (thn (T.item X rfl rfl rfl hc i pins s3 σ3 H3 X.xe I3 (stat fr3) st3 go) fun r s4 ⟨u, hr, h4⟩ => ?_)
    subst hr
    refine wpAny_passesOwn hp (thn h4 fun _ s5 ⟨x, H5, I5, r5, y5, st5, fr5⟩ => ?_)
    have I5' := I5.pinned (stat fr5) (T.obj _ _ st5)
    refine wpAny_passesOwn hp (thn (hg _ s5 σ3 H5 x u _ I5' r5 (step x H5 y5)) fun _ s6 ⟨σ6, H6, I6, q6⟩ => ?_)
    refine wpAny_passesOwn hp (thn (hb _ s6 σ6 H6 _ I6 q6) fun f s7 q7 => ?_)
    have again : ∀ {σ7 : St} {H7 : Hp}, Inv X (pins ++ pinsAt fp s5.heap) σ7 H7 s7 → N σ7 H7 → ∃ m, m < n ∧ ∃ i σ' H', Inv X pins σ' H' s7 ∧ tn i s7.heap ∧ (∀ b ∈ fp, H' b = none) ∧ W i m σ' H' := fun {σ7 H7} I7 n7 => by
      obtain ⟨m', hm, w7⟩ := hN σ7 H7 n7
      refine ⟨m', hm, i + 1, σ7, H7, I7.unpinned, T.keep _ _ _ st5 fun b hb o e => (I7.pin (b, o) (List.mem_append_right _ (List.mem_append_right _ (mem_pinsAt hb e)))).1, fun b hb => ?_, w7⟩
      obtain ⟨o, e, d⟩ := T.obj _ _ st5 b hb
      exact (I7.pin (b, o) (List.mem_append_right _ (List.mem_append_right _ (mem_pinsAt hb e)))).2.1
    cases f with
    | next => obtain ⟨σ7, H7, I7, n7⟩ := q7; exact again I7 n7
    | cont => obtain ⟨σ7, H7, I7, n7⟩ := q7; exact again I7 n7
    | brk => obtain ⟨σ7, H7, I7, q7⟩ := q7; exact ⟨σ7, H7, I7.unpinned, q7⟩
    | ret v => obtain ⟨x7, σ7, H7, I7, r7, q7⟩ := q7; exact ⟨x7, σ7, H7, I7.unpinned, r7, q7⟩
end

/-! ### the forms one uses -/
/-- over a list that the body leaves as it is -/
theorem for_list {K : PySem.W.Frag} {a : Addr} {xs : List V} {g : TG} {tb : TS} {D : Ends} {σ : St} {H : Hp} (Pv : Nat → St → Hp → Prop) (h0 : Pv 0 σ H) (hl : ∀ i σ H, i ≤ xs.length → Pv i σ H → SqL K H a xs)
    (hs : ∀ i x σ H, xs[i]? = some x → Pv i σ H → g x σ H fun σ2 H2 => tb { D with nx := Pv (i + 1), ct := Pv (i + 1), bk := D.nx } σ2 H2) (hd : ∀ σ H, Pv xs.length σ H → D.nx σ H) :
    ∃ W : Nat → Nat → St → Hp → Prop, (∃ m, W 0 m σ H) ∧ ∀ i m σ H, W i m σ H →
      ((Itl K a).stop i H ∧ D.nx σ H) ∨ ((Itl K a).go i H ∧ ∃ N : St → Hp → Prop, (∀ σ' H', N σ' H' → ∃ m', m' < m ∧ W (i + 1) m' σ' H') ∧ ∀ x H', (Itl K a).yld i H x H' → g x σ H' fun σ2 H2 => tb { D with nx := N, ct := N, bk := D.nx } σ2 H2) := by
  refine ⟨fun i m σ H => m = xs.length - i ∧ i ≤ xs.length ∧ Pv i σ H, ⟨xs.length, by simp, Nat.zero_le _, h0⟩, ?_⟩
  rintro i m σ H ⟨rfl, hi, p⟩
  have q := hl i σ H hi p
  by_cases hlt : i < xs.length
  · refine .inr ⟨⟨xs, xs[i], q, by simp [hlt]⟩, Pv (i + 1), fun σ' H' p' => ⟨xs.length - (i + 1), by omega, rfl, hlt, p'⟩, fun x H' y => ?_⟩
    obtain ⟨e, y⟩ := y
    subst e
    exact hs i x σ _ (y xs q) p
  · have e : i = xs.length := by omega
    subst e
    exact .inl ⟨⟨xs, q, Nat.le_refl _⟩, hd σ H p⟩
theorem for_tup {K : PySem.W.Frag} {a : Addr} {xs : List V} {g : TG} {tb : TS} {D : Ends} {σ : St} {H : Hp} (Pv : Nat → St → Hp → Prop) (h0 : Pv 0 σ H) (hl : ∀ i σ H, i ≤ xs.length → Pv i σ H → SqT K H a xs)
    (hs : ∀ i x σ H, xs[i]? = some x → Pv i σ H → g x σ H fun σ2 H2 => tb { D with nx := Pv (i + 1), ct := Pv (i + 1), bk := D.nx } σ2 H2) (hd : ∀ σ H, Pv xs.length σ H → D.nx σ H) :
    ∃ W : Nat → Nat → St → Hp → Prop, (∃ m, W 0 m σ H) ∧ ∀ i m σ H, W i m σ H →
      ((Itt K a).stop i H ∧ D.nx σ H) ∨ ((Itt K a).go i H ∧ ∃ N : St → Hp → Prop, (∀ σ' H', N σ' H' → ∃ m', m' < m ∧ W (i + 1) m' σ' H') ∧ ∀ x H', (Itt K a).yld i H x H' → g x σ H' fun σ2 H2 => tb { D with nx := N, ct := N, bk := D.nx } σ2 H2) := by
  refine ⟨fun i m σ H => m = xs.length - i ∧ i ≤ xs.length ∧ Pv i σ H, ⟨xs.length, by simp, Nat.zero_le _, h0⟩, ?_⟩
  rintro i m σ H ⟨rfl, hi, p⟩
  have q := hl i σ H hi p
  by_cases hlt : i < xs.length
  · refine .inr ⟨⟨xs, xs[i], q, by simp [hlt]⟩, Pv (i + 1), fun σ' H' p' => ⟨xs.length - (i + 1), by omega, rfl, hlt, p'⟩, fun x H' y => ?_⟩
    obtain ⟨e, y⟩ := y
    subst e
    exact hs i x σ _ (y xs q) p
  · have e : i = xs.length := by omega
    subst e
    exact .inl ⟨⟨xs, q, Nat.le_refl _⟩, hd σ H p⟩
theorem for_range {lo : Int} {n : Nat} {g : TG} {tb : TS} {D : Ends} {σ : St} {H : Hp} (Pv : Nat → St → Hp → Prop) (h0 : Pv 0 σ H)
    (hs : ∀ i σ H, i < n → Pv i σ H → g (.int (lo + i)) σ H fun σ2 H2 => tb { D with nx := Pv (i + 1), ct := Pv (i + 1), bk := D.nx } σ2 H2) (hd : ∀ σ H, Pv n σ H → D.nx σ H) :
    ∃ W : Nat → Nat → St → Hp → Prop, (∃ m, W 0 m σ H) ∧ ∀ i m σ H, W i m σ H →
      ((Itr lo n).stop i H ∧ D.nx σ H) ∨ ((Itr lo n).go i H ∧ ∃ N : St → Hp → Prop, (∀ σ' H', N σ' H' → ∃ m', m' < m ∧ W (i + 1) m' σ' H') ∧ ∀ x H', (Itr lo n).yld i H x H' → g x σ H' fun σ2 H2 => tb { D with nx := N, ct := N, bk := D.nx } σ2 H2) := by
  refine ⟨fun i m σ H => m = n - i ∧ i ≤ n ∧ Pv i σ H, ⟨n, by simp, Nat.zero_le _, h0⟩, ?_⟩
  rintro i m σ H ⟨rfl, hi, p⟩
  by_cases hlt : i < n
  · refine .inr ⟨hlt, Pv (i + 1), fun σ' H' p' => ⟨n - (i + 1), by omega, rfl, hlt, p'⟩, fun x H' y => ?_⟩
    obtain ⟨e, y⟩ := y
    subst e y
    exact hs i σ _ hlt p
  · have e : i = n := by omega
    subst e
    exact .inl ⟨Nat.le_refl _, hd σ H p⟩
/-- while, by a word and a measure of the state -/
theorem while_by {c : TT} {tb : TS} {D : Ends} {σ : St} {H : Hp} (Pv : St → Hp → Prop) (μ : St → Hp → Nat) (h0 : Pv σ H)
    (hs : ∀ σ H, Pv σ H → c σ H fun b H1 => if b = true then tb { D with nx := fun σ' H' => Pv σ' H' ∧ μ σ' H' < μ σ H, ct := fun σ' H' => Pv σ' H' ∧ μ σ' H' < μ σ H, bk := D.nx } σ H1 else D.nx σ H1)
    (mono : ∀ σ H Q Q', (∀ b H1, Q b H1 → Q' b H1) → c σ H Q → c σ H Q') : tWhile c tb D σ H := by
  refine ⟨fun m σ H => m = μ σ H ∧ Pv σ H, ⟨_, rfl, h0⟩, ?_⟩
  rintro m σ H ⟨rfl, p⟩
  refine mono σ H _ _ (fun b H1 q => ?_) (hs σ H p)
  cases b with
  | true => exact ⟨_, fun σ' H' ⟨p', l⟩ => ⟨_, l, rfl, p'⟩, q⟩
  | false => exact q
end L2

namespace L2
open PySem PySem.Spec PyProof.Rows

abbrev R2 := V → V → Hp → VK → Prop
/-- a two-place operation on values: f is binaryOp op, inplaceOp op or compareOp op -/
def OpR (X : Cx) (f : Value → Value → Sem Value) (r : R2) : Prop :=
  ∀ (pins : List (Addr × Obj)) (s : Shared) (σ : St) (H : Hp) (x y : V) (v u : Value) (Q : VK), Inv X pins σ H s → RelV x v → RelV y u → r x y H Q →
    wpAny (model X.prog X.w) X.A (f v u) (EP X pins σ Q) X.xe s
/-- a one-place operation -/
def UnR (X : Cx) (f : Value → Sem Value) (r : V → Hp → VK → Prop) : Prop :=
  ∀ (pins : List (Addr × Obj)) (s : Shared) (σ : St) (H : Hp) (x : V) (v : Value) (Q : VK), Inv X pins σ H s → RelV x v → r x H Q →
    wpAny (model X.prog X.w) X.A (f v) (EP X pins σ Q) X.xe s
/-- a call of a value that is known (a builtin, a type) with values -/
def CallR (X : Cx) (f : Value) (r : List V → Hp → VK → Prop) : Prop :=
  ∀ (pins : List (Addr × Obj)) (s : Shared) (σ : St) (H : Hp) (xs : List V) (us : List Value) (Q : VK), Inv X pins σ H s → Vals xs us → r xs H Q →
    wpAny (model X.prog X.w) X.A (call f us) (EP X pins σ Q) X.xe s
/-- a value's truth -/
def TruR (X : Cx) (r : V → Hp → (Bool → Hp → Prop) → Prop) : Prop :=
  ∀ (pins : List (Addr × Obj)) (s : Shared) (σ : St) (H : Hp) (x : V) (v : Value) (Q : Bool → Hp → Prop), Inv X pins σ H s → RelV x v → r x H Q →
    wpAny (model X.prog X.w) X.A (truthy v) (TP X pins σ Q) X.xe s

def tOp (r : R2) (ta tb : TE) : TE := fun σ H Q => ta σ H fun x H1 => tb σ H1 fun y H2 => r x y H2 Q
def tUn (r : V → Hp → VK → Prop) (ta : TE) : TE := fun σ H Q => ta σ H fun x H1 => r x H1 Q
/-- ints in, under C, and a value out -/
def rI (C : Int → Int → Prop) (g : Int → Int → V) : R2 := fun x y H Q => ∃ i j, x = .int i ∧ y = .int j ∧ C i j ∧ Q (g i j) H
def rI0 (g : Int → Int → V) : R2 := fun x y H Q => ∃ i j, x = .int i ∧ y = .int j ∧ Q (g i j) H
def rU (g : Int → V) : V → Hp → VK → Prop := fun x H Q => ∃ i, x = .int i ∧ Q (g i) H

section
variable {X : Cx} {a b c : Expr} {ta tb tc : TE} {pos : Pos}

theorem binT (ha : PE X a ta) (hb : PE X b tb) {pins : List (Addr × Obj)} {s : Shared} {σ : St} {H : Hp} {R : V → V → Hp → Prop} (I : Inv X pins σ H s)
    (h : ta σ H fun x H1 => tb σ H1 fun y H2 => R x y H2) {Q : Value → Shared → Prop} {f : Value → Value → Sem Value}
    (hf : ∀ v u s2 x y H2, Inv X pins σ H2 s2 → RelV x v → RelV y u → R x y H2 → wpAny (model X.prog X.w) X.A (f v u) Q X.xe s2) :
    wpAny (model X.prog X.w) X.A (eval a X.env) (fun v s₁ => wpAny (model X.prog X.w) X.A (eval b X.env) (fun u s₂ => wpAny (model X.prog X.w) X.A (f v u) Q X.xe s₂) X.xe s₁) X.xe s := by
  refine thn (ha pins s σ H _ I h) fun v s1 ⟨x, H1, I1, r1, q1⟩ => ?_
  refine thn (hb pins s1 σ H1 _ I1 q1) fun u s2 ⟨y, H2, I2, r2, q2⟩ => ?_
  exact hf v u s2 x y H2 I2 r1 r2 q2

theorem pe_op {op : Operator} {r : R2} (ho : OpR X (binaryOp op) r) (ha : PE X a ta) (hb : PE X b tb) : PE X (.BinOp a op b pos) (tOp r ta tb) := by
  intro pins s σ H Q I h
  exact wpAny_BinOp (binT ha hb I h fun v u s2 x y H2 I2 rx ry q => ho pins s2 σ H2 x y v u Q I2 rx ry q)
/-! ### ints -/
theorem opI {f : Value → Value → Sem Value} {C : Int → Int → Prop} {g : Int → Int → Int}
    (rule : ∀ (i j : Int) (t u : Tok) (s : Shared) (Q : Value → Shared → Prop) (E : Value → Shared → Prop), C i j → Q (.int (g i j) s.toks) { s with toks := s.toks + 1 } → wpAny (model X.prog X.w) X.A (f (.int i t) (.int j u)) Q E s) :
    OpR X f (rI C fun i j => .int (g i j)) := by
  intro pins s σ H x y v u Q I rx ry h
  obtain ⟨i, j, rfl, rfl, hc, q⟩ := h
  obtain ⟨t, rfl⟩ := rx
  obtain ⟨t', rfl⟩ := ry
  exact rule i j t t' s _ _ hc ⟨.int (g i j), H, I.tok _, ⟨_, rfl⟩, q⟩
theorem opI0 {f : Value → Value → Sem Value} {g : Int → Int → Int}
    (rule : ∀ (i j : Int) (t u : Tok) (s : Shared) (Q : Value → Shared → Prop) (E : Value → Shared → Prop), Q (.int (g i j) s.toks) { s with toks := s.toks + 1 } → wpAny (model X.prog X.w) X.A (f (.int i t) (.int j u)) Q E s) :
    OpR X f (rI0 fun i j => .int (g i j)) := by
  intro pins s σ H x y v u Q I rx ry h
  obtain ⟨i, j, rfl, rfl, q⟩ := h
  obtain ⟨t, rfl⟩ := rx
  obtain ⟨t', rfl⟩ := ry
  exact rule i j t t' s _ _ ⟨.int (g i j), H, I.tok _, ⟨_, rfl⟩, q⟩
theorem opB0 {f : Value → Value → Sem Value} {g : Int → Int → Bool}
    (rule : ∀ (i j : Int) (t u : Tok) (s : Shared) (Q : Value → Shared → Prop) (E : Value → Shared → Prop), Q (.bool (g i j)) s → wpAny (model X.prog X.w) X.A (f (.int i t) (.int j u)) Q E s) :
    OpR X f (rI0 fun i j => .bl (g i j)) := by
  intro pins s σ H x y v u Q I rx ry h
  obtain ⟨i, j, rfl, rfl, q⟩ := h
  obtain ⟨t, rfl⟩ := rx
  obtain ⟨t', rfl⟩ := ry
  exact rule i j t t' s _ _ ⟨.bl (g i j), H, I, rfl, q⟩

def CDiv (i j : Int) : Prop := 0 < j ∧ j < 1073741824
def CDivN (i j : Int) : Prop := j ≠ 0 ∧ j.natAbs < 1073741824
def CPow (i j : Int) : Prop := 0 ≤ j ∧ j ≤ 1000000 ∧ i.natAbs < 2 ^ 64
def CMul (i j : Int) : Prop := (-(2 ^ 64) < i ∧ i < 2 ^ 64) ∨ (-(2 ^ 64) < j ∧ j < 2 ^ 64)
theorem two_pow_nn (k : Nat) : (0 : Int) ≤ 2 ^ k := by
  rw [two_pow_cast]
  exact Int.natCast_nonneg _

theorem op_add : OpR X (binaryOp .Add) (rI0 fun i j => .int (i + j)) := opI0 fun _ _ _ _ _ _ _ q => add_int q
theorem op_sub : OpR X (binaryOp .Sub) (rI0 fun i j => .int (i - j)) := opI0 fun _ _ _ _ _ _ _ q => sub_int q
/-- % by a positive divisor of any size -/
theorem op_mod : OpR X (binaryOp .Mod) (rI (fun _ j => 0 < j) fun i j => .int (i % j)) := opI fun i j _ _ _ _ _ hc q => by
  have h1 : (0 : Int) < j := hc
  exact mod_int' (by omega) (by rw [Int.fmod_eq_emod_of_nonneg i (by omega)]; exact q)
theorem op_pow : OpR X (binaryOp .Pow) (rI CPow fun i j => .int (i ^ j.toNat)) := opI fun _ _ _ _ _ _ _ hc q => pow_int_small hc.1 hc.2.1 hc.2.2 q
theorem op_shl : OpR X (binaryOp .LShift) (rI CPow fun i j => .int (i * 2 ^ j.toNat)) := opI fun _ _ _ _ _ _ _ hc q => lshift_int_small hc.1 hc.2.1 hc.2.2 q
theorem op_shr : OpR X (binaryOp .RShift) (rI (fun _ j => 0 ≤ j) fun i j => .int (i / 2 ^ j.toNat)) := opI fun i j _ _ _ _ _ hc q =>
  rshift_int hc (by rw [Int.fdiv_eq_ediv_of_nonneg i (two_pow_nn _)]; exact q)
theorem op_and : OpR X (binaryOp .BitAnd) (rI0 fun i j => .int (Builtin.bitAnd i j)) := opI0 fun _ _ _ _ _ _ _ q => and_int q
theorem op_or : OpR X (binaryOp .BitOr) (rI0 fun i j => .int (Builtin.bitOr i j)) := opI0 fun _ _ _ _ _ _ _ q => or_int q
theorem op_xor : OpR X (binaryOp .BitXor) (rI0 fun i j => .int (Builtin.bitXor i j)) := opI0 fun _ _ _ _ _ _ _ q => xor_int q

theorem iop_add : OpR X (inplaceOp .Add) (rI0 fun i j => .int (i + j)) := opI0 fun _ _ _ _ _ _ _ q => iadd_int q
theorem iop_fdiv : OpR X (inplaceOp .FloorDiv) (rI CDiv fun i j => .int (i / j)) := opI fun i j _ _ _ _ _ hc q => by
  have h1 : (0 : Int) < j := hc.1
  have h2 : j < 1073741824 := hc.2
  exact ifloordiv_int (by omega) (by rw [Int.fdiv_eq_ediv_of_nonneg i (by omega)]; exact q) (.inl (PyProof.noPylong_small (by omega)))
/-! ### bools among ints: n += (a < b) -/
end

/-! ### comparisons -/
/-- the scalars that == tells apart as data does -/
def scal : V → V → Bool
  | .non, .non => true | .non, .int _ => true | .int _, .non => true | .non, .bl _ => true | .bl _, .non => true | .non, .str _ => true | .str _, .non => true
  | .int _, .int _ => true | .bl _, .bl _ => true | .str _, .str _ => true | .byt _, .byt _ => true
  | .int _, .str _ => true | .str _, .int _ => true | .bl _, .str _ => true | .str _, .bl _ => true
  | _, _ => false
def rEq : R2 := fun x y H Q => scal x y = true ∧ Q (.bl (decide (x = y))) H
def rNe : R2 := fun x y H Q => scal x y = true ∧ Q (.bl (!decide (x = y))) H

theorem dec_int {i j : Int} : decide (V.int i = V.int j) = (i == j) := by
  rw [Bool.eq_iff_iff]
  simp
theorem dec_bl {i j : Bool} : decide (V.bl i = V.bl j) = (i == j) := by
  rw [Bool.eq_iff_iff]
  simp
theorem dec_str {i j : Str} : decide (V.str i = V.str j) = (i == j) := by
  rw [Bool.eq_iff_iff]
  simp
theorem dec_byt {i j : Array UInt8} : decide (V.byt i = V.byt j) = (i.toList == j.toList) := by
  rw [Bool.eq_iff_iff]
  cases i
  cases j
  simp

section
variable {X : Cx} {a b c : Expr} {ta tb tc : TE} {pos : Pos}
theorem fin_bl {pins : List (Addr × Obj)} {σ : St} {H : Hp} {s : Shared} {Q : VK} {k k' : Bool} (I : Inv X pins σ H s) (q : Q (.bl k) H) (e : k = k') : EP X pins σ Q (.bool k') s := by
  subst e
  exact ⟨.bl k, H, I, rfl, q⟩
theorem op_eq : OpR X (compareOp .Eq) rEq := by
  intro pins s σ H x y v u Q I rx ry h
  obtain ⟨hs, q⟩ := h
  cases x with
  | non =>
    cases rx
    cases y with
    | non => cases ry; exact PySem.EqNone.eq_none_none (fin_bl I q (by simp))
    | bl j => cases ry; exact PySem.EqNone.eq_none_bool (fin_bl I q (by simp))
    | int j => obtain ⟨t', rfl⟩ := ry; exact PySem.EqNone.eq_none_int (fin_bl I q (by simp))
    | str j => obtain ⟨t', rfl⟩ := ry; exact PySem.EqNone.eq_none_str (fin_bl I q (by simp))
    | _ => exact absurd (show false = true from hs) Bool.false_ne_true
  | bl i =>
    cases rx
    cases y with
    | non => cases ry; exact PySem.EqNone.eq_bool_none (fin_bl I q (by simp))
    | bl j => cases ry; exact eq_bool (fin_bl I q dec_bl)
    | str j => obtain ⟨t', rfl⟩ := ry; exact PySem.EqMixed.eq_bool_str (fin_bl I q (by simp))
    | _ => exact absurd (show false = true from hs) Bool.false_ne_true
  | int i =>
    obtain ⟨t, rfl⟩ := rx
    cases y with
    | non => cases ry; exact PySem.EqNone.eq_int_none (fin_bl I q (by simp))
    | int j => obtain ⟨t', rfl⟩ := ry; exact eq_int (fin_bl I q dec_int)
    | str j => obtain ⟨t', rfl⟩ := ry; exact PySem.EqMixed.eq_int_str (fin_bl I q (by simp))
    | _ => exact absurd (show false = true from hs) Bool.false_ne_true
  | str i =>
    obtain ⟨t, rfl⟩ := rx
    cases y with
    | non => cases ry; exact PySem.EqNone.eq_str_none (fin_bl I q (by simp))
    | bl j => cases ry; exact PySem.EqMixed.eq_str_bool (fin_bl I q (by simp))
    | int j => obtain ⟨t', rfl⟩ := ry; exact PySem.EqMixed.eq_str_int (fin_bl I q (by simp))
    | str j => obtain ⟨t', rfl⟩ := ry; exact eq_str (fin_bl I q dec_str)
    | _ => exact absurd (show false = true from hs) Bool.false_ne_true
  | byt i =>
    obtain ⟨t, rfl⟩ := rx
    cases y with
    | byt j => obtain ⟨t', rfl⟩ := ry; exact PySem.W.eq_bytes (fin_bl I q dec_byt)
    | _ => exact absurd (show false = true from hs) Bool.false_ne_true
  | _ => cases y <;> exact absurd (show false = true from hs) Bool.false_ne_true
theorem op_ne : OpR X (compareOp .NotEq) rNe := by
  intro pins s σ H x y v u Q I rx ry h
  obtain ⟨hs, q⟩ := h
  cases x with
  | non =>
    cases rx
    cases y with
    | non => cases ry; exact PySem.EqNone.ne_none_none (fin_bl I q (by simp))
    | bl j => cases ry; exact PySem.EqNone.ne_none_bool (fin_bl I q (by simp))
    | int j => obtain ⟨t', rfl⟩ := ry; exact PySem.EqNone.ne_none_int (fin_bl I q (by simp))
    | str j => obtain ⟨t', rfl⟩ := ry; exact PySem.EqNone.ne_none_str (fin_bl I q (by simp))
    | _ => exact absurd (show false = true from hs) Bool.false_ne_true
  | bl i =>
    cases rx
    cases y with
    | non => cases ry; exact PySem.EqNone.ne_bool_none (fin_bl I q (by simp))
    | bl j => cases ry; exact ne_bool (fin_bl I q (congrArg not dec_bl))
    | str j => obtain ⟨t', rfl⟩ := ry; exact PySem.EqMixed.ne_bool_str (fin_bl I q (by simp))
    | _ => exact absurd (show false = true from hs) Bool.false_ne_true
  | int i =>
    obtain ⟨t, rfl⟩ := rx
    cases y with
    | non => cases ry; exact PySem.EqNone.ne_int_none (fin_bl I q (by simp))
    | int j => obtain ⟨t', rfl⟩ := ry; exact ne_int (fin_bl I q (congrArg not dec_int))
    | str j => obtain ⟨t', rfl⟩ := ry; exact PySem.EqMixed.ne_int_str (fin_bl I q (by simp))
    | _ => exact absurd (show false = true from hs) Bool.false_ne_true
  | str i =>
    obtain ⟨t, rfl⟩ := rx
    cases y with
    | non => cases ry; exact PySem.EqNone.ne_str_none (fin_bl I q (by simp))
    | bl j => cases ry; exact PySem.EqMixed.ne_str_bool (fin_bl I q (by simp))
    | int j => obtain ⟨t', rfl⟩ := ry; exact PySem.EqMixed.ne_str_int (fin_bl I q (by simp))
    | str j => obtain ⟨t', rfl⟩ := ry; exact ne_str (fin_bl I q (congrArg not dec_str))
    | _ => exact absurd (show false = true from hs) Bool.false_ne_true
  | byt i =>
    obtain ⟨t, rfl⟩ := rx
    cases y with
    | byt j => obtain ⟨t', rfl⟩ := ry; exact PySem.W.ne_bytes (fin_bl I q (congrArg not dec_byt))
    | _ => exact absurd (show false = true from hs) Bool.false_ne_true
  | _ => cases y <;> exact absurd (show false = true from hs) Bool.false_ne_true

theorem op_lt : OpR X (compareOp .Lt) (rI0 fun i j => .bl (decide (i < j))) := opB0 fun _ _ _ _ _ _ _ q => lt_int q
theorem op_gt : OpR X (compareOp .Gt) (rI0 fun i j => .bl (decide (j < i))) := opB0 fun _ _ _ _ _ _ _ q => gt_int q
/-- is, is not of two objects that are tracked lists or instances -/
def isObj : HO → Bool
  | .lst _ => true
  | .ins _ _ _ => true
  | _ => false
theorem nomark (b : Expr) {op : CmpOp} (h : op ≠ .In := by decide) (h2 : op ≠ .NotIn := by decide) : behindInMarks op b = false := by
  have e1 : (op == CmpOp.In) = false := by cases op <;> first | rfl | exact absurd rfl h
  have e2 : (op == CmpOp.NotIn) = false := by cases op <;> first | rfl | exact absurd rfl h2
  cases b <;> simp [behindInMarks, e1, e2]
/-- a comparison as a value; hm: nomark b, or (for in, not in) by with_unfolding_all rfl -/
theorem pe_cmpR {op : CmpOp} {r : R2} (ho : OpR X (compareOp op) r) (ha : PE X a ta) (hb : PE X b tb) (hm : behindInMarks op b = false) : PE X (.Compare a [op] [b] pos) (tOp r ta tb) := by
  intro pins s σ H Q I h
  exact wpAny_Compare1 (binT ha hb I h fun v u s2 x y H2 I2 rx ry q => ho pins s2 σ H2 x y v u Q I2 rx ry q) hm
/-- a reading of a value as a test -/
def tTest (t : TE) : TT := fun σ H Q => t σ H fun x H' => ∃ k, x = .bl k ∧ Q k H'
theorem pt_cmpR {op : CmpOp} {r : R2} (ho : OpR X (compareOp op) r) (ha : PE X a ta) (hb : PE X b tb) (hm : behindInMarks op b = false) : PT X (.Compare a [op] [b] pos) (tTest (tOp r ta tb)) := by
  intro pins s σ H Q I h
  refine wpAny_isTrue_Compare1 (thn (ha pins s σ H _ I h) fun v s1 ⟨x, H1, I1, r1, q1⟩ => thn (hb pins s1 σ H1 _ I1 q1) fun u s2 ⟨y, H2, I2, r2, q2⟩ =>
    thn (ho pins s2 σ H2 x y v u _ I2 r1 r2 q2) fun c s3 ⟨z, H3, I3, r3, k, e, q3⟩ => ?_) hm
  subst e
  cases r3
  exact wpAny_truthy_bool ⟨H3, I3, q3⟩
/-- a op1 b op2 c -/
def tChain (r r' : R2) (ta tb tc : TE) : TE := fun σ H Q => ta σ H fun x H1 => tb σ H1 fun y H2 => r x y H2 fun z H3 => ∃ k, z = .bl k ∧
  (if k = true then tc σ H3 fun w' H4 => r' y w' H4 Q else Q (.bl false) H3)
/-! ### truth -/
/-- a value's truth by the abstract heap -/
def TruV (K : PySem.W.Frag) (x : V) (H : Hp) (k : Bool) : Prop :=
  match x with
  | .non => k = false
  | .bl b => k = b
  | .int i => k = (i != 0)
  | .str y => y.length ≤ sizeLine ∧ k = ((y.length : Int) != 0)
  | .byt y => y.size ≤ sizeLine ∧ k = ((y.size : Int) != 0)
  | .ref p => (∃ xs, SqL K H p xs ∧ k = !xs.isEmpty) ∨ (∃ xs, SqT K H p xs ∧ k = !xs.isEmpty) ∨ ∃ kvs, H p = some (.dK kvs) ∧ k = !kvs.isEmpty
  | _ => False
theorem isEmpty_kv {κ : Type} {kvs : List (κ × V)} {vs : List (κ × Value)} (r : KV kvs vs) : (!vs.isEmpty) = !kvs.isEmpty := by
  cases r <;> rfl
theorem isEmpty_of {xs : List V} {its : List Value} (r : Vals xs its) : (!its.toArray.isEmpty) = !xs.isEmpty := by
  cases r <;> simp
theorem line63 : (sizeLine : Nat) < 2 ^ 63 := by rw [sizeLine_eq]; decide
theorem tru_ok : TruR X (fun x H Q => ∃ k, TruV X.K x H k ∧ Q k H) := by
  intro pins s σ H x v Q I rx h
  obtain ⟨k, e, q⟩ := h
  have hl := line63
  have hs : sizeLine = 16777216 := sizeLine_eq
  cases x with
  | non =>
    cases rx
    have e' : k = false := e
    subst e'
    exact truthy_none ⟨H, I, q⟩
  | bl b =>
    cases rx
    have e' : k = b := e
    subst e'
    exact wpAny_truthy_bool ⟨H, I, q⟩
  | int i =>
    obtain ⟨t, rfl⟩ := rx
    have e' : k = (i != 0) := e
    subst e'
    exact PySem.P.truthy_int ⟨H, I, q⟩
  | str y =>
    obtain ⟨t, rfl⟩ := rx
    obtain ⟨hy, e'⟩ : y.length ≤ sizeLine ∧ k = ((y.length : Int) != 0) := e
    subst e'
    exact PySem.P.truthy_str (by omega) ⟨H, I.tok _, q⟩
  | byt y =>
    obtain ⟨t, rfl⟩ := rx
    obtain ⟨hy, e'⟩ : y.size ≤ sizeLine ∧ k = ((y.size : Int) != 0) := e
    subst e'
    exact PySem.W.truthy_bytes (by omega) ⟨H, I.tok _, q⟩
  | ref p =>
    cases rx
    have e' : (∃ xs, SqL X.K H p xs ∧ k = !xs.isEmpty) ∨ (∃ xs, SqT X.K H p xs ∧ k = !xs.isEmpty) ∨ ∃ kvs, H p = some (.dK kvs) ∧ k = !kvs.isEmpty := e
    rcases e' with ⟨xs, hx, e'⟩ | ⟨xs, hx, e'⟩ | ⟨kvs, hx, e'⟩
    · subst e'
      obtain ⟨its, r, pl, hz⟩ := I.list hx
      have hlen := r.length
      exact wpAny_truthy_list pl.isList (by simp only [List.size_toArray]; omega) ⟨H, I.tok _, by rw [isEmpty_of r]; exact q⟩
    · subst e'
      obtain ⟨its, r, pl, hz⟩ := I.tuple hx
      have hlen := r.length
      exact truthy_tuple pl (by simp only [List.size_toArray]; omega) ⟨H, I.tok _, by rw [isEmpty_of r]; exact q⟩
    · subst e'
      obtain ⟨hz, hS, vs, r, m⟩ : kvs.length ≤ sizeLine ∧ (p == sysModules) = false ∧ ∃ vs, KV kvs vs ∧ s.heap.DictOf (mixKind X.prog X.w) p vs := I.hok p _ hx
      have hlen : kvs.length = vs.length := Paired.length r
      exact wpAny_truthy_dict hS m (by omega) ⟨H, I.tok _, by rw [isEmpty_kv r]; exact q⟩
  | _ => exact (show False from e).elim
/-- any expression whose test is its value's truth (a name, a call, a subscript, a field ..: he by fun _ => rfl) -/
theorem pt_truth (ha : PE X a ta) (he : ∀ whole, isTrue a X.env whole = (do let v ← whole; standAt a.pos; holding [v] (truthy v))) :
    PT X a (fun σ H Q => ta σ H fun x H' => ∃ k, TruV X.K x H' k ∧ Q k H') := by
  intro pins s σ H Q I h
  exact isTrue_plain (thn (ha pins s σ H _ I h) fun v s1 ⟨x, H1, I1, r1, q1⟩ => tru_ok pins s1 σ H1 x v Q I1 r1 q1) (he _)

/-! ### strs and bytes -/
def PlainIxT (b : Expr) : Prop := ∀ o i, subscripted b false o i = operate [o, i] (getItem o i)
/-! ### scalar builtins, by CallR -/
theorem vals1 {x : V} {us : List Value} (r : Vals [x] us) : ∃ u, us = [u] ∧ RelV x u := by
  cases r with
  | cons r1 r2 => cases r2; exact ⟨_, rfl, r1⟩
theorem vals2 {x y : V} {us : List Value} (r : Vals [x, y] us) : ∃ u w', us = [u, w'] ∧ RelV x u ∧ RelV y w' := by
  cases r with
  | cons r1 r2 =>
    cases r2 with
    | cons r3 r4 => cases r4; exact ⟨_, _, rfl, r1, r3⟩
theorem call_max2 (hc : X.calm = true) : CallR X (.builtin "max") (fun xs H Q => ∃ i j, xs = [.int i, .int j] ∧ Q (.int (if j > i then j else i)) H) := by
  intro pins s σ H xs us Q I r h
  obtain ⟨i, j, rfl, q⟩ := h
  obtain ⟨u, w', rfl, ⟨t, rfl⟩, ⟨t', rfl⟩⟩ := vals2 r
  refine max_two_ints (I.ok.hd hc) fun h' tk k => ⟨_, H, I.kept k, ?_, q⟩
  by_cases hj : j > i
  · rw [if_pos hj, if_pos hj]; exact ⟨_, rfl⟩
  · rw [if_neg hj, if_neg hj]; exact ⟨_, rfl⟩
theorem call_min2 (hc : X.calm = true) : CallR X (.builtin "min") (fun xs H Q => ∃ i j, xs = [.int i, .int j] ∧ Q (.int (if j < i then j else i)) H) := by
  intro pins s σ H xs us Q I r h
  obtain ⟨i, j, rfl, q⟩ := h
  obtain ⟨u, w', rfl, ⟨t, rfl⟩, ⟨t', rfl⟩⟩ := vals2 r
  refine min_two_ints (I.ok.hd hc) fun h' tk k => ⟨_, H, I.kept k, ?_, q⟩
  by_cases hj : j < i
  · rw [if_pos hj, if_pos hj]; exact ⟨_, rfl⟩
  · rw [if_neg hj, if_neg hj]; exact ⟨_, rfl⟩
/-- len of a str, a bytes, a list, a tuple -/
def LenV (K : PySem.W.Frag) (x : V) (H : Hp) (n : Nat) : Prop :=
  match x with
  | .str y => y.length ≤ sizeLine ∧ n = y.length
  | .byt y => y.size ≤ sizeLine ∧ n = y.size
  | .ref p => (∃ xs, SqL K H p xs ∧ n = xs.length) ∨ ∃ xs, SqT K H p xs ∧ n = xs.length
  | _ => False
end
end L2

namespace L2
open PySem PySem.Spec PyProof.Rows

/-! ### an instance, its attributes a map -/
structure ObjM (h : Heap) (x dx C : Addr) (mA : Str → Option Value) : Prop where
  obj : h.get? x = some (PySem.W.instObj C dx)
  ns : h.Ns1 dx mA
  ne : dx ≠ x

section
variable {prog : Program} {w : World} {A : Around} {E : Value → Shared → Prop} {s : Shared} {K : PySem.W.Frag} {x dx C f : Addr} {mA : Str → Option Value} {name : Str} {v : Value}

end

/-! ### the attributes as a list of pairs -/
def putF (f : Str) (v : V) : List (Str × V) → List (Str × V)
  | [] => [(f, v)]
  | (g, x) :: r => if g = f then (g, v) :: r else (g, x) :: putF f v r
theorem RelO.some_of {v : V} {o : Option Value} (r : RelO (some v) o) : ∃ u, o = some u ∧ RelV v u := by
  cases o with
  | none => exact (show False from r).elim
  | some u => exact ⟨u, rfl, r⟩
section
variable {P : Program} {w : World} {H H' : Hp} {h h' : Heap} {a C dx : Addr} {fs fs' : List (Str × V)}
end

/-! ### what of the text a class must have -/
structure Cls (K : PySem.W.Frag) (C : Addr) : Prop where
  pg : PySem.W.plainGet K C Str.empty = true
  hd : PySem.W.hasDictIn K C = true
  po : PySem.W.plainOver K C = true
  sa : PySem.W.findIn K (.ref C) "__setattr__" = some (some (.builtin "object.__setattr__"))
/-- no class of it has the name -/
def NoAttr (K : PySem.W.Frag) (C : Addr) (f : Str) : Prop := PySem.W.findIn K (.ref C) f = some none
/-- a constant of the class -/
structure Con (K : PySem.W.Frag) (C : Addr) (f : Str) (v : V) (u : Value) : Prop where
  at_ : PySem.W.findIn K (.ref C) f = some (some u)
  rel : RelV v u
  get : PySem.W.specialIn K u "__get__" = some none
  cp : PySem.W.copiedNames.contains f = false
/-- a method: a plain def of the class or of one above it -/
structure Meth (K : PySem.W.Frag) (C : Addr) (m : Str) (f : Addr) : Prop where
  at_ : PySem.W.findIn K (.ref C) m = some (some (.ref f))
  fn : PySem.W.isFn K (.ref f) = true
  kp : PySem.W.keepIn K (.ref f) = true

section
variable {X : Cx} {pins : List (Addr × Obj)} {σ : St} {H : Hp} {s : Shared} {a C dx : Addr} {fs : List (Str × V)} {f : Str} {v : V} {A : Around} {E : Value → Shared → Prop}

end

/-! ### readings and rules -/
/-- e.f, an attribute of the instance -/
def tFld (K : PySem.W.Frag) (ta : TE) (f : Str) : TE := fun σ H Q => ta σ H fun x H1 => ∃ a C dx fs v, x = .ref a ∧ H1 a = some (.ins C dx fs) ∧ Cls K C ∧ NoAttr K C f ∧ fs.lookup f = some v ∧ Q v H1
/-- e.f, a constant of the class -/
def tCon (K : PySem.W.Frag) (ta : TE) (f : Str) : TE := fun σ H Q => ta σ H fun x H1 => ∃ a C dx fs v u, x = .ref a ∧ H1 a = some (.ins C dx fs) ∧ Cls K C ∧ Con K C f v u ∧ fs.lookup f = none ∧ Q v H1
/-- e.f = value -/
def sFld (K : PySem.W.Frag) (ta tv : TE) (f : Str) : TS := fun D σ H => tv σ H fun y H1 => ta σ H1 fun x H2 => ∃ a C dx fs, x = .ref a ∧ H2 a = some (.ins C dx fs) ∧ Cls K C ∧ NoAttr K C f ∧ fs.length < 1000 ∧
  D.nx σ (upd H2 a (.ins C dx (putF f y fs)))
/-- an augmented operator on two values -/
def InOp (X : Cx) (op : Operator) (rd : V → V → Hp → VK → Prop) : Prop :=
  ∀ (pins : List (Addr × Obj)) (s : Shared) (σ : St) (H : Hp) (x y : V) (u v : Value) (Q : VK), Inv X pins σ H s → RelV x u → RelV y v → rd x y H Q → wpAny (model X.prog X.w) X.A (inplaceOp op u v) (EP X pins σ Q) X.xe s
/-- e.f op= value -/
def sFldAug (K : PySem.W.Frag) (ta tv : TE) (rd : V → V → Hp → VK → Prop) (f : Str) : TS := fun D σ H => ta σ H fun x H1 => ∃ a C dx fs v, x = .ref a ∧ H1 a = some (.ins C dx fs) ∧ Cls K C ∧ NoAttr K C f ∧ fs.lookup f = some v ∧
  tv σ H1 fun y H2 => rd v y H2 fun z H3 => ∃ dx' fs', H3 a = some (.ins C dx' fs') ∧ fs'.length < 1000 ∧ D.nx σ (upd H3 a (.ins C dx' (putF f z fs')))

section
variable {X : Cx} {o e value : Expr} {f : Str} {pos pos' tpos : Pos} {ta tv : TE}
def rAdd : V → V → Hp → VK → Prop := fun x y H Q => ∃ i j, x = .int i ∧ y = .int j ∧ Q (.int (i + j)) H
def rSub : V → V → Hp → VK → Prop := fun x y H Q => ∃ i j, x = .int i ∧ y = .int j ∧ Q (.int (i - j)) H
end

/-! ### isinstance -/
section
variable {X : Cx} {pins : List (Addr × Obj)} {σ : St} {H : Hp} {s : Shared} {A : Around} {E : Value → Shared → Prop} {Q : Value → Shared → Prop} {c : Value} {b : Bool}
/-- the type of a value, as the fragment's deciders take it; for an instance its class -/
inductive TyOf (K : PySem.W.Frag) (H : Hp) : V → Value → Prop where
  | non : TyOf K H .non (.type "NoneType")
  | bl (x : Bool) : TyOf K H (.bl x) (.type "bool")
  | int (i : Int) : TyOf K H (.int i) (.type "int")
  | str (x : Str) : TyOf K H (.str x) (.type "str")
  | flt (x : UInt64) : TyOf K H (.flt x) (.type "float")
  | lst {a : Addr} {xs : List V} (e : H a = some (.lst xs)) : TyOf K H (.ref a) (.type "list")
  | frz {a : Addr} {o : Obj} {xs : List V} (e : H a = some (.frz o (.lst xs))) : TyOf K H (.ref a) (.type "list")
  | tup {a : Addr} {xs : List V} (e : H a = some (.tup xs)) : TyOf K H (.ref a) (.type "tuple")
  | dK {a : Addr} {kvs : List (Key × V)} (e : H a = some (.dK kvs)) : TyOf K H (.ref a) (.type "dict")
  | dT {a : Addr} {kvs : List (List Key × V)} (e : H a = some (.dT kvs)) : TyOf K H (.ref a) (.type "dict")
  | ins {a C dx : Addr} {fs : List (Str × V)} (e : H a = some (.ins C dx fs)) (cl : Cls K C) (ha : PySem.W.findIn K (.ref C) "__class__" = some (some (.builtin "object.__class__")))
      (hn : PySem.W.specialIn K (.builtin "object.__class__") "__get__" = some (some (.builtin "getset_descriptor.__get__"))) (htk : PySem.W.takesIn K (.builtin "object.__class__") = some true)
      (hm : PySem.W.mroIn K C (.type "object") = some true) : TyOf K H (.ref a) (.ref C)
end
end L2

namespace L2
open PySem PySem.Spec PyProof.Rows

/-! ### room -/
structure Room (k : Nat) (A : Around) : Prop where
  hd : A.handled = none
  dp : A.depth + 3 * k + 5 < recursionLimit
  un : A.units + 16 * k + 200 < cLine
theorem Room.mono {j k : Nat} {A : Around} (r : Room k A) (h : j ≤ k) : Room j A := ⟨r.hd, by have := r.dp; omega, by have := r.un; omega⟩
theorem Room.deeper {k : Nat} {A : Around} (r : Room (k + 1) A) (env : Env) : Room k (A.deeper env) :=
  ⟨r.hd, by have := r.dp; show A.depth + 1 + 3 * k + 5 < _; omega, by have := r.un; show A.units + 3 + 16 * k + 200 < _; omega⟩
theorem Room.depth {k : Nat} {A : Around} (r : Room k A) : A.depth < recursionLimit := by have := r.dp; omega
theorem Room.units {k : Nat} {A : Around} (r : Room k A) : A.units + 64 < cLine := by have := r.un; omega
/-! ### argument lists and displays -/
def tNil : TA := fun _ H Q => Q [] H
def tCons (ta : TE) (tr : TA) : TA := fun σ H Q => ta σ H fun x H1 => tr σ H1 fun xs H2 => Q (x :: xs) H2
section
variable {X : Cx} {e : Expr} {es : List Expr} {te : TE} {t : TA} {pos : Pos}
theorem pa_nil : PA X [] tNil := fun _ _ _ _ H Q I h => Calls.spliced_nil ⟨[], H, I, .nil, h⟩
theorem pa_cons (ha : PE X e te) (hr : PA X es t) (hs : starEach (e :: es) X.env = (false, eval e X.env) :: starEach es X.env := by rfl) : PA X (e :: es) (tCons te t) := by
  intro pos pins s σ H Q I h
  rw [hs]
  show wpAny _ _ (spliced ((false, eval e X.env) :: backTo pos (starEach es X.env))) _ _ s
  refine Calls.spliced_cons (thn (ha pins s σ H _ I h) fun u s1 ⟨x, H1, I1, r1, q1⟩ => ?_)
  exact thn (hr pos pins s1 σ H1 _ I1 q1) fun us s2 ⟨xs, H2, I2, r2, q2⟩ => ⟨x :: xs, H2, I2, .cons r1 r2, q2⟩

/-- a tuple, a list of written items -/
def tTup (t : TA) : TE := fun σ H Q => t σ H fun xs H1 => xs.length ≤ sizeLine ∧ ∀ p, H1 p = none → Q (.ref p) (upd H1 p (.tup xs))
def tLst (t : TA) : TE := fun σ H Q => t σ H fun xs H1 => xs.length ≤ sizeLine ∧ ∀ p, H1 p = none → Q (.ref p) (upd H1 p (.lst xs))
theorem pe_tup {x1} (h : PA X es t) : PE X (.Tuple es x1 pos) (tTup t) := by
  intro pins s σ H Q I hq
  refine wpAny_Tuple_spliced (thn (h pos pins s σ H _ I hq) fun us s1 ⟨xs, H1, I1, r, z, q⟩ => ⟨by rw [← r.length]; exact z, ?_⟩)
  have hf : H1 s1.heap.objs.size = none := I1.hok.fresh (Nat.le_refl _)
  refine ⟨.ref s1.heap.objs.size, upd H1 s1.heap.objs.size (.tup xs), I1.laid (t' := s1.toks) (fun b u e => Heap.get?_push_of_some _ e) (Nat.le_refl _) ?_, rfl, q _ hf⟩
  exact ⟨z, us, r, ⟨_, Heap.get?_push_size _ rfl, rfl, _, rfl⟩⟩
theorem pe_lst (h : PA X es t) : PE X (.List es pos) (tLst t) := by
  intro pins s σ H Q I hq
  refine wpAny_List_spliced (thn (h pos pins s σ H _ I hq) fun us s1 ⟨xs, H1, I1, r, z, q⟩ => ⟨by rw [← r.length]; exact z, ?_⟩)
  have hf : H1 s1.heap.objs.size = none := I1.hok.fresh (Nat.le_refl _)
  refine ⟨.ref s1.heap.objs.size, upd H1 s1.heap.objs.size (.lst xs), I1.laid (t' := s1.toks) (fun b u e => Heap.get?_push_of_some _ e) (Nat.le_refl _) ?_, rfl, q _ hf⟩
  exact ⟨z, us, 0, r, Heap.get?_push_size _ rfl⟩
end

/-! ### what a def promises -/
/-- a def's promise: the bound arguments in the parameters' order, the heap, the wanted end, the wanted exception -/
abbrev Sp := List V → Hp → VK → XK → Prop
/-- how an exception lies behind a call (file 08 gives it): the callers' frames, abstract heap and state ahead of the call, the wish, the exception, the state -/
abbrev CXT := List Env → Hp → Shared → XK → Value → Shared → Prop

/-- the state at a call -/
structure Env0 (P : Program) (w : World) (K : PySem.W.Frag) (mg : Str → Option Value) (base : Heap) (A : Around) (outer : List Env) (s : Shared) (H : Hp) : Prop where
  frames : A.frames = some outer
  mod : Mod K mg base
  bs : ∀ b o, base.get? b = some o → s.heap.get? b = some o ∧ H b = none
  bsz : base.objs.size ≤ s.heap.objs.size
  funs : s.heap.FunFrames base outer
  frf : ∀ b ∈ frs outer, H b = none
  hok : HOk P w H s.heap
  bare : AllBare s.gens
/-- a call's end -/
def CE (outer : List Env) (P : Program) (w : World) (H : Hp) (s : Shared) (Q : VK) (u : Value) (s' : Shared) : Prop :=
  ∃ v H', s'.os = s.os ∧ AllBare s'.gens ∧ Un (frs outer) [] H H' s.heap s'.heap ∧ HOk P w H' s'.heap ∧ RelV v u ∧ Q v H'
def CR (CX : CXT) (outer : List Env) (P : Program) (w : World) (H : Hp) (s : Shared) (Q : VK) (E : XK) (r : Result) (s' : Shared) : Prop :=
  match r with
  | .ok (.ret u) => CE outer P w H s Q u s'
  | .ok _ => False
  | .error e => CX outer H s E e s'
structure FnOk (P : Program) (w : World) (K : PySem.W.Frag) (mg : Str → Option Value) (base : Heap) (CX : CXT) (k : Nat) (f : Addr) (fd : FuncData) (ps : List Str) (sp : Sp) : Prop where
  len : ∀ vs H Q E, sp vs H Q E → vs.length = ps.length
  run : ∀ (A : Around) (outer : List Env) (s : Shared) (H : Hp) (args : Args) (us : List Value) (vs : List V) (Q : VK) (E : XK), Room k A → Env0 P w K mg base A outer s H → BindsTo s fd args (ps.zip us) → Vals vs us → sp vs H Q E →
    codeAny (model P w) A (.call (.ref f) args) (CR CX outer P w H s Q E) s
section
variable {X : Cx} {pins : List (Addr × Obj)} {σ : St} {H : Hp} {s s' : Shared}
/-- from a body: what a callee wants -/
theorem Inv.env0 (I : Inv X pins σ H s) : Env0 X.prog X.w X.K X.mg X.base X.A X.stack s H :=
  ⟨I.ok.frames, I.ok.mod, I.bs, Nat.le_trans I.ok.bsz I.sz, I.stack, I.stkFree, I.hok, I.bare⟩
/-- behind a call -/
theorem Inv.after {Q : VK} {u : Value} (I : Inv X pins σ H s) (h : CE X.stack X.prog X.w H s Q u s') : EP X pins σ Q u s' := by
  obtain ⟨v, H', os, bare, un, hok, r, q⟩ := h
  obtain ⟨hh, g, d, t, os'⟩ := s'
  obtain rfl : os' = s.os := os
  exact ⟨v, H', I.call (h' := hh) (g' := g) (d' := d) (t' := t) (ch := []) un hok bare (fun b z => absurd z (by simp)), r, q⟩
end

/-! ### calls -/
/-- f(..): the written arguments, then the defaults dvs; E: what is wanted of an exception -/
def tCall (sp : Sp) (dvs : List V) (E : XK) (t : TA) : TE := fun σ H Q => t σ H fun vs H1 => sp (vs ++ dvs) H1 Q E
/-- o.m(..) of an instance of the class at C -/
def tMeth (C : Addr) (m : Str) (sp : Sp) (dvs : List V) (E : XK) (ta : TE) (t : TA) : TE := fun σ H Q => ta σ H fun x H1 => ∃ a dx fs, x = .ref a ∧ H1 a = some (.ins C dx fs) ∧ fs.lookup m = none ∧
  t σ H1 fun vs H2 => sp (x :: (vs ++ dvs)) H2 Q E
/-- C(..): a new instance and its dict, then __init__ -/
def tMake (C : Addr) (sp : Sp) (dvs : List V) (E : XK) (t : TA) : TE := fun σ H Q => t σ H fun vs H1 => ∀ x dx, H1 x = none → H1 dx = none → dx ≠ x →
  sp (.ref x :: (vs ++ dvs)) (upd (upd H1 dx (.own x)) x (.ins C dx [])) (fun v H2 => v = .non ∧ Q (.ref x) H2) E

/-- how the parameters are bound: us the positional arguments, kw the keywords' values by name, ds the defaults that fill up -/
def Binds (K : PySem.W.Frag) (fd : FuncData) (ps : List Str) (ds : List Value) : Prop :=
  ∀ (s : Shared) (us : List Value), K.In s.heap → (us ++ ds).length = ps.length → BindsTo s fd ⟨us, []⟩ (ps.zip (us ++ ds))
/-- every parameter is given -/
theorem Binds.all {K : PySem.W.Frag} {fd : FuncData} {ps : List Str} (h : ∀ us : List Value, us.length = ps.length → bindArgs fd ⟨us, []⟩ = pure (ps.zip us)) : Binds K fd ps [] := fun s us _ hl => by
  rw [List.append_nil] at hl ⊢
  exact .of_eq (h us hl)

/-- an exception of a callee reaches what this body wants of exceptions -/
def Passes (CX : CXT) (X : Cx) (E : XK) : Prop := ∀ (pins : List (Addr × Obj)) (σ : St) (H : Hp) (s : Shared) (e : Value) (s' : Shared), Inv X pins σ H s → CX X.stack H s E e s' → X.xe e s'

section
variable {X : Cx} {CX : CXT} {k : Nat} {f C : Addr} {fd : FuncData} {ps : List Str} {sp : Sp} {dvs : List V} {ds : List Value} {E : XK} {x m : Str} {p pos apos : Pos} {e o : Expr} {es : List Expr} {ta : TE} {t : TA}

/-- the callee runs -/
theorem run_fn {pins : List (Addr × Obj)} {σ : St} {H : Hp} {s : Shared} {Q : VK} {us : List Value} {vs : List V} (F : FnOk X.prog X.w X.K X.mg X.base CX k f fd ps sp) (hr : Room k X.A) (hb : Binds X.K fd ps ds) (hd : Vals dvs ds) (hx : Passes CX X E)
    (I : Inv X pins σ H s) (r : Vals vs us) (h : sp (vs ++ dvs) H Q E) : wpAny (model X.prog X.w) X.A (call (.ref f) us) (EP X pins σ Q) X.xe s := by
  have r2 : Vals (vs ++ dvs) (us ++ ds) := r.append hd
  have hl : (us ++ ds).length = ps.length := by rw [← r2.length]; exact F.len _ _ _ _ h
  refine wpAny_call (codeAny_mono (F.run X.A X.stack s H ⟨us, []⟩ (us ++ ds) (vs ++ dvs) Q E hr I.env0 (hb s us I.kIn hl) r2 h) fun r s' hq => ?_)
  cases r with
  | error e => exact hx pins σ H s e s' I hq
  | ok fl =>
    cases fl with
    | ret u => exact I.after hq
    | next => exact False.elim hq
    | brk => exact False.elim hq
    | cont => exact False.elim hq

theorem pe_call (F : FnOk X.prog X.w X.K X.mg X.base CX k f fd ps sp) (hr : Room k X.A) (hg : Gl X x) (hm : X.mg x = some (.ref f)) (hk : PySem.W.keepIn X.K (.ref f) = true) (hb : Binds X.K fd ps ds) (hd : Vals dvs ds) (hx : Passes CX X E)
    (ha : PA X (e :: es) t) (hdb : (x == ("__debug__" : Str)) = false := by decide) (he : starEach (e :: es) X.env = (false, eval e X.env) :: starEach es X.env := by rfl) (hpl : (backTo pos (starEach es X.env)).any (·.1) = false := by rfl) :
    PE X (.Call (.Name x p) (e :: es) [] pos) (tCall sp dvs E t) := by
  intro pins s σ H Q I h
  refine wpAny_Call_Name_kw (ld_glob I hg hm ?_ hdb)
  refine PySem.W.callWith_K (h₀ := X.base) I.ok.mod.kin hk (thn (ha pos pins s σ H _ I h) fun us s1 ⟨vs, H1, I1, r, q⟩ => ⟨I1.kIn, ?_⟩) he hpl
  exact run_fn F hr hb hd hx I1 r q
/-- what a class must have to be made -/
structure Mk (K : PySem.W.Frag) (C f : Addr) : Prop where
  makes : PySem.W.makesIn K C = true
  init : PySem.W.findIn K (.ref C) "__init__" = some (some (.ref f))
  fn : PySem.W.isFn K (.ref f) = true
  kp : PySem.W.keepIn K (.ref C) = true

end

/-! ### keywords -/
/-- the values of the keywords, from the left -/
def PK (X : Cx) (kws : List Keyword) (t : TA) : Prop :=
  ∀ (pos : Pos) (pins : List (Addr × Obj)) (s : Shared) (σ : St) (H : Hp) (Q : List V → Hp → Prop), Inv X pins σ H s → t σ H Q → wpAny (model X.prog X.w) X.A (evalAll ((backToKw pos (keywordEach kws X.env)).map (·.2))) (AP X pins σ Q) X.xe s
section
variable {X : Cx} {CX : CXT} {k : Nat} {f C : Addr} {fd : FuncData} {ps ks : List Str} {sp : Sp} {E : XK} {x m : Str} {p pos apos kpos : Pos} {e o : Expr} {es : List Expr} {kws : List Keyword} {te ta : TE} {t tk : TA} {nm : Option Str}
/-- how a call with keywords binds: g puts the positional values us and the keywords' values ws (names ks) in the parameters' order, defaults among them -/
structure KBinds (K : PySem.W.Frag) (fd : FuncData) (ps ks : List Str) (g : List Value → List Value → List Value) (gV : List V → List V → List V) : Prop where
  to : ∀ (s : Shared) (us ws : List Value), K.In s.heap → (g us ws).length = ps.length → BindsTo s fd ⟨us, ks.zip ws⟩ (ps.zip (g us ws))
  rel : ∀ {vs : List V} {us : List Value} {zs : List V} {ws : List Value}, Vals vs us → Vals zs ws → Vals (gV vs zs) (g us ws)
def tCallK (sp : Sp) (gV : List V → List V → List V) (E : XK) (t tk : TA) : TE := fun σ H Q => t σ H fun vs H1 => tk σ H1 fun zs H2 => sp (gV vs zs) H2 Q E
variable {g : List Value → List Value → List Value} {gV : List V → List V → List V}
end

/-! ### a def's body keeps its promise -/
/-- names: the parameters first -/
structure FnScope (N P : List Str) (sc : Scope) : Prop where
  kind : sc.kind = .function
  co : sc.isCoroutine = false
  gen : sc.isGenerator = false
  nd : N.Nodup
  pre : N.take P.length = P
  par : ∀ x ∈ P, sc.names.lookup x = some .local ∨ sc.names.lookup x = some .cell
  nofree : ∀ y ∈ sc.names, y.2 ≠ .free

theorem bindL_out {kindOf : Str → Option NameKind} {x : Str} : ∀ {binds : List (Str × Value)} {m : Str → Option Value}, (∀ v, (x, v) ∉ binds) → bindL kindOf binds m x = m x
  | [], _, _ => rfl
  | (n, v) :: r, m, h => by
    unfold bindL
    rw [bindL_out fun w hw => h w (List.mem_cons_of_mem _ hw)]
    split
    · have : x ≠ n := by rintro rfl; exact h v List.mem_cons_self
      simp [this]
    · rfl
theorem bindC_out {kindOf : Str → Option NameKind} {x : Str} : ∀ {binds : List (Str × Value)} {m : Str → Option Value}, (∀ v, (x, v) ∉ binds) → bindC kindOf binds m x = m x
  | [], _, _ => rfl
  | (n, v) :: r, m, h => by
    unfold bindC
    rw [bindC_out fun w hw => h w (List.mem_cons_of_mem _ hw)]
    split
    · rfl
    · have : x ≠ n := by rintro rfl; exact h v List.mem_cons_self
      simp [this]
theorem bindL_get {kindOf : Str → Option NameKind} {x : Str} {v : Value} : ∀ {P : List Str} {vs : List Value} {i : Nat} {m : Str → Option Value}, P.Nodup → P[i]? = some x → vs[i]? = some v → kindOf x = some .local →
    bindL kindOf (P.zip vs) m x = some v
  | [], _, _, _, _, h, _, _ => by simp at h
  | _ :: _, [], _, _, _, _, h, _ => by simp at h
  | p :: P, w :: vs, 0, m, nd, h1, h2, hk => by
    simp at h1 h2; subst h1; subst h2
    show bindL kindOf ((p, w) :: P.zip vs) m p = _
    unfold bindL
    rw [bindL_out fun v hv => (List.nodup_cons.mp nd).1 (List.of_mem_zip hv).1, if_pos hk]
    simp
  | p :: P, w :: vs, i + 1, m, nd, h1, h2, hk => by
    show bindL kindOf ((p, w) :: P.zip vs) m x = _
    unfold bindL
    exact bindL_get (i := i) (List.nodup_cons.mp nd).2 (by simpa using h1) (by simpa using h2) hk
theorem bindC_get {kindOf : Str → Option NameKind} {x : Str} {v : Value} : ∀ {P : List Str} {vs : List Value} {i : Nat} {m : Str → Option Value}, P.Nodup → P[i]? = some x → vs[i]? = some v → kindOf x ≠ some .local →
    bindC kindOf (P.zip vs) m x = some v
  | [], _, _, _, _, h, _, _ => by simp at h
  | _ :: _, [], _, _, _, _, h, _ => by simp at h
  | p :: P, w :: vs, 0, m, nd, h1, h2, hk => by
    simp at h1 h2; subst h1; subst h2
    show bindC kindOf ((p, w) :: P.zip vs) m p = _
    unfold bindC
    rw [bindC_out fun v hv => (List.nodup_cons.mp nd).1 (List.of_mem_zip hv).1, if_neg hk]
    simp
  | p :: P, w :: vs, i + 1, m, nd, h1, h2, hk => by
    show bindC kindOf ((p, w) :: P.zip vs) m x = _
    unfold bindC
    exact bindC_get (i := i) (List.nodup_cons.mp nd).2 (by simpa using h1) (by simpa using h2) hk

/-- the names' values at the entry -/
def start (N : List Str) (vs : List V) : St := vs.map some ++ List.replicate (N.length - vs.length) none

/-- the context of a def's body, at its entry; an exception leaves the frame, then lies as CX says -/
def cxOf (CX : CXT) (P : Program) (w : World) (K : PySem.W.Frag) (mg : Str → Option Value) (base : Heap) (N : List Str) (qual : Str) (scope : Scope) (f : Addr) (cd : Value) (A : Around) (outer : List Env) (s : Shared) (H : Hp) (E : XK) : Cx where
  prog := P
  w := w
  K := K
  mg := mg
  base := base
  A := A.deeper (envOfC qual scope s.heap.objs.size f cd)
  N := N
  s₀ := s
  H₀ := H
  env := envOfC qual scope s.heap.objs.size f cd
  outer := outer
  stack := envOfC qual scope s.heap.objs.size f cd :: outer
  ex := []
  calm := true
  fn := fun _ => true
  pn := []
  xe := fun e s' => wpAny (model P w) (A.deeper (envOfC qual scope s.heap.objs.size f cd)) (leaving (envOfC qual scope s.heap.objs.size f cd) e) (fun _ s'' => CX outer H s E e s'') (fun e' s'' => CX outer H s E e' s'') s'

theorem cell_has {sc : Scope} {n : Nat} {x : Str} (h : sc.names.lookup x = some .cell) : ∃ c, (cellsFrom n sc.names []).lookup x = some c := by
  have q := PySem.W.cellsFrom_some sc.names n [] (.inl h)
  exact Option.isSome_iff_exists.mp q

theorem inv_start {CX : CXT} {P : Program} {w : World} {K : PySem.W.Frag} {mg : Str → Option Value} {base : Heap} {N ps : List Str} {qual : Str} {scope : Scope} {f : Addr} {cd : Value} {A : Around} {outer : List Env} {s s1 : Shared} {H : Hp} {E : XK} {us : List Value} {vs : List V}
    (S : FnScope N ps scope) (hd : A.handled = none) (e0 : Env0 P w K mg base A outer s H) (hl : vs.length = ps.length) (r : Vals vs us)
    (x : InCallC s s.heap.objs.size (bindL (envOfC qual scope s.heap.objs.size f cd).kindOf (ps.zip us) fun _ => none) (cellsFrom (s.heap.objs.size + 1) scope.names []) (bindC (envOfC qual scope s.heap.objs.size f cd).kindOf (ps.zip us) fun _ => none) s1) :
    Inv (cxOf CX P w K mg base N qual scope f cd A outer s H E) [] (start N vs) H s1 := by
  have hpl : ps.length ≤ N.length := by have := congrArg List.length S.pre; rw [List.length_take] at this; omega
  obtain ⟨h1, tk, rfl, hk⟩ := x.done
  have noA : ∀ b : Addr, b ∉ (cxOf CX P w K mg base N qual scope f cd A outer s H E).ex := fun b z => absurd (show b ∈ ([] : List Addr) from z) (by simp)
  refine ⟨⟨e0.mod, S.kind, rfl, rfl, Nat.le_refl _, fun y z c h1 h2 => ?_, fun y hy => ?_, fun y c _ h => ?_, fun _ => hd, Around.frames_deeper e0.frames, .inr ⟨rfl, rfl⟩, fun b z => absurd z (noA b), e0.bs, e0.bsz, fun b _ _ => noA b, fun b z => absurd z (noA b), e0.funs, e0.frf⟩,
    rfl, e0.bare, Un.kept hk, ⟨_, x.toInCall.ns, fun i y v h1 h2 h3 => ?_⟩, fun y c h => ⟨_, x.cell y c h⟩, e0.hok.fresh (Nat.le_refl _), fun y c h => ?_, fun p hp => absurd (show p ∈ ([] : List (Addr × Obj)) from hp) (by simp), e0.hok.kept hk, ?_⟩
  · exact name_of_addr x.apart (PySem.mem_of_lookup h1) (PySem.mem_of_lookup h2)
  · have hy : scope.names.lookup y = some .cell ∨ scope.names.lookup y = some .free := hy
    rcases hy with hy | hy
    · exact cell_has hy
    · exact absurd rfl (S.nofree _ (PySem.mem_of_lookup hy))
  · exact Nat.le_of_lt (x.above y c (PySem.mem_of_lookup h))
  · have hi : i < vs.length := by
      unfold start at h2
      by_cases hi : i < vs.length
      · exact hi
      · rw [List.getElem?_append_right (by simpa using hi)] at h2
        rw [List.getElem?_replicate] at h2
        split at h2 <;> cases h2
    have ha : vs[i]? = some v := by
      unfold start at h2
      rw [List.getElem?_append_left (by simpa using hi), List.getElem?_map] at h2
      cases e : vs[i]? with
      | none => rw [e] at h2; cases h2
      | some a => rw [e] at h2; cases h2; rfl
    obtain ⟨u, hu, rv⟩ := r.get ha
    have hp : ps[i]? = some y := by
      rw [← S.pre, List.getElem?_take_of_lt (by omega)]; exact h1
    have ndP : ps.Nodup := by rw [← S.pre]; exact S.nd.sublist (List.take_sublist _ _)
    refine ⟨u, rv, ?_⟩
    rcases S.par y (List.mem_of_getElem? hp) with k | k
    · exact .inl ⟨k, bindL_get ndP hp hu k⟩
    · obtain ⟨c, e⟩ := cell_has (n := s.heap.objs.size + 1) k
      refine .inr ⟨.inl k, c, e, ?_⟩
      have q := x.cell y c e
      rw [bindC_get ndP hp hu (by show scope.names.lookup y ≠ _; rw [k]; decide)] at q
      exact q
  · exact e0.hok.fresh (Nat.le_of_lt (x.above y c (PySem.mem_of_lookup h)))
  · unfold start
    show _ = N.length
    rw [List.length_append, List.length_map, List.length_replicate]
    omega

/-- THE RULE: a def (or a method) of the text, by its body. The body's reading t is chosen for each entry; it is run at the parameters' values -/
theorem fn_of {CX : CXT} {P : Program} {w : World} {K : PySem.W.Frag} {mg : Str → Option Value} {base : Heap} {k : Nat} {f : Addr} {name qual : Str} {params : Arguments} {body : List Stmt} {scope : Scope} {dV kV doc pm cdv ct oc : Value} {an od : Option Addr}
    {osl : Array (Option Value)} {N ps : List Str} {sp : Sp} (lk : K.lookup f = some ⟨oc, od, .func (PySem.W.fnOf name qual params body scope dV kV doc pm an cdv ct), osl⟩) (hcd : PySem.W.codeIn K cdv qual = true) (S : FnScope N ps scope)
    (len : ∀ vs H Q E, sp vs H Q E → vs.length = ps.length)
    (hbody : ∀ (A : Around) (outer : List Env) (s : Shared) (H : Hp) (vs : List V) (Q : VK) (E : XK), Room k (A.deeper (envOfC qual scope s.heap.objs.size f cdv)) → sp vs H Q E →
      ∃ t, PSs (cxOf CX P w K mg base N qual scope f cdv A outer s H E) body t ∧ t { nx := fun _ H' => Q .non H', rt := Q } (start N vs) H) :
    FnOk P w K mg base CX (k + 1) f (PySem.W.fnOf name qual params body scope dV kV doc pm an cdv ct) ps sp := by
  refine ⟨len, fun A outer s H args us vs Q E hr e0 hb r hsp => ?_⟩
  have hl := len _ _ _ _ hsp
  have KX : K.In s.heap := e0.mod.kin.keeps fun b o e => (e0.bs b o e).1
  have lim : s.heap.NoLimit := e0.mod.nolimit.keeps fun b o e => (e0.bs b o e).1
  have hkind : ∀ y ∈ ps.zip us, scope.names.lookup y.1 = some .local ∨ (scope.names.lookup y.1 = some .cell ∧ ((cellsFrom (s.heap.objs.size + 1) scope.names []).lookup y.1).isSome = true) := fun ⟨n, v⟩ hy => by
    rcases S.par n (List.of_mem_zip hy).1 with q | q
    · exact .inl q
    · exact .inr ⟨q, PySem.W.cellsFrom_some _ _ _ (.inl q)⟩
  refine codeAny_call_function hr.depth (KX _ _ lk) rfl S.co S.gen rfl (PySem.W.codeRec_of KX hcd) (hb _ _ _ _ ?_)
  refine wpAny_newFunctionEnv_cells S.kind hkind fun env he s1 x => ?_
  subst he
  refine ⟨lim.keeps x.toInCall.keep, codeAny_func ?_⟩
  obtain ⟨t, ht, hq⟩ := hbody A outer s H vs Q E (hr.deeper _) hsp
  have I : Inv (cxOf CX P w K mg base N qual scope f cdv A outer s H E) [] (start N vs) H s1 := inv_start S hr.hd e0 hl r x
  refine wpAny_mono (ht [] s1 (start N vs) H _ I hq) (fun fl s' hs => ?_) fun e s' hs => hs
  have fin : ∀ {σ' : St} {H' : Hp} {v : V} {u : Value}, Inv (cxOf CX P w K mg base N qual scope f cdv A outer s H E) [] σ' H' s' → RelV v u → Q v H' → CE outer P w H s Q u s' :=
    fun {σ' H' v u} J rv q => ⟨v, H', J.os, J.bare, J.base, J.hok, rv, q⟩
  cases fl with
  | ret u =>
    obtain ⟨v, σ', H', J, rv, q⟩ := hs
    exact fin J rv q
  | next =>
    obtain ⟨σ', H', J, q⟩ := hs
    exact fin (v := V.non) (u := Value.none) J rfl q
  | brk =>
    obtain ⟨_, _, _, q⟩ := hs
    exact False.elim q
  | cont =>
    obtain ⟨_, _, _, q⟩ := hs
    exact False.elim q
end L2

namespace L2
open PySem PySem.Spec PyProof.Rows
section
variable {X : Cx} {x : Str} {p pos : Pos} {e : Expr} {es : List Expr} {t : TA} {id T : String} {r : List V → Hp → VK → Prop}

def tCB (r : List V → Hp → VK → Prop) (t : TA) : TE := fun σ H Q => t σ H fun vs H1 => r vs H1 Q
/-- f(e, ..), f a built-in function -/
theorem pe_callB (hc : CallR X (.builtin id) r) (hg : Gl X x) (hm : X.mg x = none) (hv : bootBuiltins x = some (.builtin id)) (ha : PA X (e :: es) t) (hn : x ≠ "__name__" := by decide) (hdb : (x == ("__debug__" : Str)) = false := by decide)
    (he : starEach (e :: es) X.env = (false, eval e X.env) :: starEach es X.env := by rfl) (hpl : (backTo pos (starEach es X.env)).any (·.1) = false := by rfl) : PE X (.Call (.Name x p) (e :: es) [] pos) (tCB r t) := by
  intro pins s σ H Q I h
  refine wpAny_Call_Name_kw (ld_blt I hg hm hv ?_ hn hdb)
  exact PyProof.Rows.callWith_builtin1 (thn (ha pos pins s σ H _ I h) fun us s1 ⟨vs, H1, I1, r1, q1⟩ => hc pins s1 σ H1 vs us Q I1 r1 q1) he hpl
/-- T(e, ..), T a built-in type -/
theorem pe_callTy (hc : CallR X (.type T) r) (hg : Gl X x) (hm : X.mg x = none) (hv : bootBuiltins x = some (.type T)) (ha : PA X (e :: es) t) (hn : x ≠ "__name__" := by decide) (hdb : (x == ("__debug__" : Str)) = false := by decide)
    (he : starEach (e :: es) X.env = (false, eval e X.env) :: starEach es X.env := by rfl) (hpl : (backTo pos (starEach es X.env)).any (·.1) = false := by rfl) : PE X (.Call (.Name x p) (e :: es) [] pos) (tCB r t) := by
  intro pins s σ H Q I h
  refine wpAny_Call_Name_kw (ld_blt I hg hm hv ?_ hn hdb)
  exact PyProof.Rows.callWith_type1 (thn (ha pos pins s σ H _ I h) fun us s1 ⟨vs, H1, I1, r1, q1⟩ => hc pins s1 σ H1 vs us Q I1 r1 q1) he hpl
end
end L2

namespace HT
open PySem PyProof.Rows

/-- t < u of tuples of ints -/
def lexLt : List Int → List Int → Bool
  | [], [] => false
  | [], _ :: _ => true
  | _ :: _, [] => false
  | x :: xs, y :: ys => if x = y then lexLt xs ys else decide (x < y)
theorem lexLt_cons (x y : Int) (xs ys : List Int) : lexLt (x :: xs) (y :: ys) = if x = y then lexLt xs ys else decide (x < y) := rfl
theorem lexLt_nil_nil : lexLt [] [] = false := rfl
theorem lexLt_nil_cons (y : Int) (ys : List Int) : lexLt [] (y :: ys) = true := rfl
theorem lexLt_cons_nil (x : Int) (xs : List Int) : lexLt (x :: xs) [] = false := rfl

theorem eqAt_int (A : Around) (s : Shared) (a : Int) (t : Tok) (c : Int) (u : Tok) : ∃ e, SeqAt.EqAt A s (.int a t) (.int c u) e ∧ (e = true ↔ a = c) :=
  ⟨(a == c), SeqAt.EqAt.int_int a t c u, by simp⟩
theorem rcLt_int (A : Around) (s : Shared) (a : Int) (t : Tok) (c : Int) (u : Tok) (prog : Program) (w : World) (E : Value → Shared → Prop) (Q : Value → Shared → Prop) (h : Q (.bool (decide (a < c))) s) :
    wpAny (model prog w) A (richCompare .Lt (.int a t) (.int c u)) Q E s :=
  (PyProof.Rows.lt_int h : wpAny (model prog w) A (compareOp .Lt (.int a t) (.int c u)) Q E s)

section
open PySem.SeqAt
open PySem.AutoSeq1 (wpAny_loadPart')
open PySem.MeetsSeq PySem.MeetsSeq2 PySem.MeetsSeq3

theorem tuple_lt_ints (l b : Addr) (items items2 : Array Value) (n n2 : Nat) (dd dd2 : Option Addr) (sl sl2 : Array (Option Value)) (ns ms : List Int) (hi : IntsAre items.toList ns) (hj : IntsAre items2.toList ms) :
    Meets (Builtin.«tuple.__lt__» ⟨[.ref l, .ref b], []⟩)
      (fun _ R s => s.heap.get? l = some { cls := .type "tuple", dict := dd, data := .seq items n, slots := sl } ∧ s.heap.get? b = some { cls := .type "tuple", dict := dd2, data := .seq items2 n2, slots := sl2 } ∧
        R (.ok (.ret (.bool (lexLt ns ms)))) s) :=
  .of_wp fun prog w A R s h => by
    obtain ⟨hp, g, d, tk, os⟩ := s; obtain ⟨hl, hb, h⟩ := h
    have f2 := AutoSeq1.sub_tuple_tuple
    have z1 : items.size = ns.length := by rw [← hi.length]; simp
    have z2 : items2.size = ms.length := by rw [← hj.length]; simp
    wp_walk using wpAny_loadPart' hl, wpAny_loadPart' hb, wpAny_forIn_list _ (fun rest b s' => b.1 = none ∧ s' = ⟨hp, g, d, tk, os⟩ ∧ ∃ (vs ws : List Value) (ns' ms' : List Int), rest = vs.zip ws ∧
      IntsAre vs ns' ∧ IntsAre ws ms' ∧ ns'.length + items2.size = ms'.length + items.size ∧ R (.ok (.ret (.bool (lexLt ns' ms')))) ⟨hp, g, d, tk, os⟩) _
    case turn =>
      rintro ⟨y, x⟩ rest b s' ⟨hb', rfl, vs, ws, ns', ms', hz, hvi, hwi, hlen, hR⟩
      cases hvi with
      | nil => rw [List.zip_nil_left] at hz; cases hz
      | cons a t hvi' =>
        cases hwi with
        | nil => rw [List.zip_nil_right] at hz; cases hz
        | cons c u hwi' =>
          rw [List.zip_cons_cons] at hz
          injection hz with hyx hrest
          injection hyx with hy hx
          subst hy hx
          rw [lexLt_cons] at hR
          simp only [List.length_cons] at hlen
          obtain ⟨e, he, hiff⟩ := eqAt_int A.in1 ⟨hp, g, d, tk, os⟩ a t c u
          refine wpAny_bind (he prog w _ _ ?_)
          cases e with
          | true =>
            rw [if_pos (hiff.mp rfl)] at hR
            wp_walk
            exact ⟨rfl, rfl, _, _, _, _, hrest, hvi', hwi', by omega, hR⟩
          | false =>
            rw [if_neg (fun q => absurd (hiff.mpr q) Bool.false_ne_true)] at hR
            have hri := rcLt_int A.in1 ⟨hp, g, d, tk, os⟩ a t c u prog w
            wp_walk using hri
            exact ⟨_, rfl, by simpa using hR⟩
    case fin =>
      rintro ⟨b1, b2⟩ s' ⟨hb', rfl, vs, ws, ns', ms', hz, hvi, hwi, hlen, hR⟩
      simp only at hb'
      subst hb'
      have hv : lexLt ns' ms' = decide (items.size < items2.size) := by
        cases hvi with
        | nil =>
          cases hwi with
          | nil =>
            simp only [List.length_nil] at hlen
            rw [lexLt_nil_nil]
            exact (decide_eq_false (by omega)).symm
          | cons c u hw =>
            simp only [List.length_nil, List.length_cons] at hlen
            rw [lexLt_nil_cons]
            exact (decide_eq_true (by omega)).symm
        | cons a t hv =>
          cases hwi with
          | nil =>
            simp only [List.length_nil, List.length_cons] at hlen
            rw [lexLt_cons_nil]
            exact (decide_eq_false (by omega)).symm
          | cons c u hw =>
            rw [List.zip_cons_cons] at hz
            cases hz
      rw [hv] at hR
      wp_walk
      exact ⟨_, rfl, by simpa [Builtin.Tuple.tupleCompareSizes] using hR⟩
    case h =>
      exact ⟨rfl, rfl, items.toList, items2.toList, ns, ms, rfl, hi, hj, by omega, h⟩
end

section
variable {prog : Program} {w : World} {A : Around} {E : Value → Shared → Prop} {s : Shared}

theorem lt_tupInts {l b : Addr} {items items2 : Array Value} {ns ms : List Int} {Q : Value → Shared → Prop} (hl : IsTup s.heap l items) (hb : IsTup s.heap b items2) (hi : IntsAre items.toList ns) (hj : IntsAre items2.toList ms)
    (hu : A.units < cLine) (h : Q (.bool (lexLt ns ms)) s) : wpAny (model prog w) A (compareOp .Lt (.ref l) (.ref b)) Q E s := by
  obtain ⟨⟨cls, dd, data, sl⟩, ho, hc, n, hd⟩ := id hl
  obtain ⟨⟨cls2, dd2, data2, sl2⟩, ho2, hc2, n2, hd2⟩ := id hb
  simp only at hc hd hc2 hd2
  subst hc hd hc2 hd2
  exact richCompare_meets_room (op := .Lt) ⟨_, ho, rfl⟩ ⟨_, ho2, rfl⟩ PySem.F.slot_tuple_lt PySem.F.entry_tuple_lt (PySem.F.args_tuple_lt_2 _ _) (tuple_lt_ints l b items items2 n n2 dd dd2 sl sl2 ns ms hi hj)
    ⟨ho, ho2, show Value.bool (lexLt ns ms) ≠ Value.notImplemented ∧ Q (.bool (lexLt ns ms)) s from ⟨(fun x => nomatch x), h⟩⟩ hu

/-! ### t[a:b], not the whole -/
/-- a slice's bound as a place among n (d where it is left out) -/
def sIx (n d : Nat) : Option Int → Nat
  | none => d
  | some v => if v < 0 then (v + (n : Int)).toNat else min v.toNat n
theorem sIx_le (n d : Nat) (hd : d ≤ n) (o : Option Int) : sIx n d o ≤ n := by
  cases o with
  | none => exact hd
  | some v =>
    show (if v < 0 then (v + (n : Int)).toNat else min v.toNat n) ≤ n
    by_cases hv : v < 0
    · rw [if_pos hv]; omega
    · rw [if_neg hv]; exact Nat.min_le_right _ _
theorem clip_eq (v : Int) (n d : Nat) : (if v < 0 then max (v + (n : Int)) 0 else min v (n : Int)) = ((sIx n d (some v) : Nat) : Int) := by
  show (if v < 0 then max (v + (n : Int)) 0 else min v (n : Int)) = (((if v < 0 then (v + (n : Int)).toNat else min v.toNat n) : Nat) : Int)
  by_cases hv : v < 0
  · simp only [if_pos hv]; omega
  · simp only [if_neg hv]; omega
theorem adjust_gen (lo hi : Option Int) (n : Nat) : Builtin.Slice.sliceAdjust lo hi 1 (n : Int) = (((sIx n 0 lo : Nat) : Int), ((sIx n n hi : Nat) : Int)) := by
  have h1 : ¬ ((1 : Int) < 0) := by omega
  unfold Builtin.Slice.sliceAdjust
  simp only [h1, if_false]
  refine Prod.ext ?_ ?_
  · cases lo with
    | none => rfl
    | some v => exact clip_eq v n 0
  · cases hi with
    | none => rfl
    | some v => exact clip_eq v n n
theorem places_gen (i j : Nat) : Builtin.Slice.slicePlaces (i : Int) (j : Int) 1 = j - i := by
  unfold Builtin.Slice.slicePlaces
  have h1 : (1 : Int) > 0 := by omega
  simp only [h1, if_true, Int.ediv_one]
  split <;> omega
theorem slicePart_ {v : Value} {o : Option Int} {Q : Option Int → Shared → Prop} (p : IsPart v o) (h : Q o s) : wpAny (model prog w) A (Builtin.Slice.slicePartIndex v) Q E s := by
  cases p with
  | none => exact slicePart_none h
  | int i t => exact slicePart_int h
theorem sliceApplied_gen {sl : Addr} {vl vu : Value} {lo hi : Option Int} {n : Nat} {Q : Int × Int × Nat → Shared → Prop} (hs : s.heap.IsSliceOf sl vl vu .none) (pl : IsPart vl lo) (pu : IsPart vu hi)
    (h : Q (((sIx n 0 lo : Nat) : Int), 1, sIx n n hi - sIx n 0 lo) s) : wpAny (model prog w) A (Builtin.Slice.sliceApplied (.ref sl) (pure (n : Int))) Q E s := by
  obtain ⟨os, hos, hcs, hds⟩ := id hs
  unfold Builtin.Slice.sliceApplied Builtin.Slice.sliceFields
  refine wpAny_bind (wpAny_bind (wpAny_field hos hds (x := vl) rfl (wpAny_bind (wpAny_field hos hds (x := vu) rfl (wpAny_bind (wpAny_field hos hds (x := .none) rfl (wpAny_pure ?_)))))))
  refine wpAny_bind (slicePart_none ?_)
  show wpAny _ _ (if ((1 : Int) == 0) = true then _ else _) _ _ s
  rw [if_neg (by decide)]
  refine wpAny_bind (slicePart_ pl (wpAny_bind (slicePart_ pu (wpAny_bind (wpAny_pure ?_)))))
  show wpAny _ _ (match Builtin.Slice.sliceAdjust lo hi 1 (n : Int) with | (lo, hi) => pure (lo, (1 : Int), Builtin.Slice.slicePlaces lo hi 1)) _ _ s
  rw [adjust_gen lo hi n]
  show wpAny _ _ (pure (((sIx n 0 lo : Nat) : Int), (1 : Int), Builtin.Slice.slicePlaces ((sIx n 0 lo : Nat) : Int) ((sIx n n hi : Nat) : Int) 1)) _ _ s
  rw [places_gen]
  exact wpAny_pure h
theorem pick_gen (xs : Array Value) (i k : Nat) : ((List.range k).filterMap fun (m : Nat) => xs[((i : Int) + (m : Int) * 1).toNat]?).toArray = ((xs.toList.drop i).take k).toArray := by
  have e : (fun (m : Nat) => xs[((i : Int) + (m : Int) * 1).toNat]?) = fun m => xs[i + m]? := by
    funext m
    have : ((i : Int) + (m : Int) * 1).toNat = i + m := by omega
    rw [this]
  rw [e]
  have := pick_run xs i k
  rw [List.filterMap_map] at this
  have e2 : ((fun x => xs[x]?) ∘ fun x => i + x) = fun m => xs[i + m]? := rfl
  rw [e2] at this
  rw [this]

theorem getItem_tuple_cut {t sl : Addr} {items : Array Value} {vl vu : Value} {lo hi : Option Int} {Q : Value → Shared → Prop} (ht : IsTup s.heap t items) (hs : s.heap.IsSliceOf sl vl vu .none) (pl : IsPart vl lo) (pu : IsPart vu hi)
    (hw : ¬ (sIx items.size 0 lo = 0 ∧ sIx items.size items.size hi = items.size))
    (h : Q (.ref s.heap.objs.size) { s with heap := s.heap.push { cls := .type "tuple", data := .seq ((items.toList.drop (sIx items.size 0 lo)).take (sIx items.size items.size hi - sIx items.size 0 lo)).toArray } })
    (hsz : items.size ≤ sizeLine) : wpAny (model prog w) A (getItem (.ref t) (.ref sl)) Q E s := by
  have htake : sizeOk (.seq ((items.toList.drop (sIx items.size 0 lo)).take (sIx items.size items.size hi - sIx items.size 0 lo)).toArray) := by
    show ((items.toList.drop (sIx items.size 0 lo)).take (sIx items.size items.size hi - sIx items.size 0 lo)).toArray.size ≤ sizeLine
    rw [List.size_toArray, List.length_take, List.length_drop, Array.length_toList]
    omega
  have hj : sIx items.size items.size hi ≤ items.size := sIx_le _ _ (Nat.le_refl _) hi
  obtain ⟨os, hos, hcs, hds⟩ := id hs
  have hTs : s.TypeIs (.ref sl) "slice" := ⟨os, hos, hcs⟩
  unfold getItem
  try with_reducible refine wpAny_holding ?_
  first | refine wpAny_bind (wpAny_pure ?_) | skip
  refine wpAny_bind (wpAny_sequenceKey ht.typeIs (by decide) ?_)
  refine wpAny_bind (wpAny_callSpecial?_slot (name := Str.ofString "__getitem__") ht.typeIs PyProof.Rows.slot_tuple_getitem
    (wpAny_call_entry PyProof.Rows.slot_tuple_getitem ht.typeIs entry_tuple_getitem ?_ (args_tuple_getitem _ _)))
  show wpAny _ _ (Builtin.Tuple.tupleItemsOf (.ref t) >>= _) _ _ s
  refine wpAny_bind (tupleItemsOf_ ht ?_)
  refine wpAny_bind (wpAny_typeOf hTs ?_)
  rw [if_pos (by decide)]
  refine wpAny_bind (sliceApplied_gen hs pl pu ?_)
  have hno : ¬ ((((sIx items.size 0 lo : Nat) : Int) == 0 && (1 : Int) == 1 && (sIx items.size items.size hi - sIx items.size 0 lo) == items.size) = true) := by
    intro q
    rw [Bool.and_eq_true, Bool.and_eq_true] at q
    have q1 : ((sIx items.size 0 lo : Nat) : Int) = 0 := eq_of_beq q.1.1
    have q2 : sIx items.size items.size hi - sIx items.size 0 lo = items.size := eq_of_beq q.2
    exact hw ⟨by omega, by omega⟩
  show wpAny _ _ (if (((sIx items.size 0 lo : Nat) : Int) == 0 && (1 : Int) == 1 && (sIx items.size items.size hi - sIx items.size 0 lo) == items.size) = true then _ else _) _ _ s
  rw [if_neg hno, pick_gen]
  first
    | exact wpAny_bind (m := Builtin.Tuple.tupleExact _) (wpAny_newObj_type (wpAny_pure ⟨_, rfl, wpAny_pure h⟩) htake)
    | exact wpAny_bind (m := Builtin.Tuple.tupleExact _) (wpAny_newObj_type (wpAny_bind (wpAny_pure (wpAny_pure ⟨_, rfl, wpAny_pure h⟩))) htake)
    | exact wpAny_bind (wpAny_bind (m := Builtin.Tuple.tupleExact _) (wpAny_newObj_type (wpAny_pure (wpAny_pure ⟨_, rfl, wpAny_pure h⟩)) htake))
    | exact wpAny_bind (wpAny_bind (m := Builtin.Tuple.tupleExact _) (wpAny_newObj_type (wpAny_pure ⟨_, rfl, wpAny_pure h⟩) htake))
end
end HT

namespace L2
open PySem PySem.Spec PyProof.Rows

/-! ### the parts of a slice -/
abbrev TO := St → Hp → (Option Int → Hp → Prop) → Prop
/-- a slice's part (left out, or an int) -/
def PO (X : Cx) (e : Option Expr) (t : TO) : Prop :=
  ∀ (pins : List (Addr × Obj)) (s : Shared) (σ : St) (H : Hp) (Q : Option Int → Hp → Prop), Inv X pins σ H s → t σ H Q →
    wpAny (model X.prog X.w) X.A (evalPart e X.env) (fun u s' => ∃ o H', Inv X pins σ H' s' ∧ IsPart u o ∧ Q o H') X.xe s
def tNoPart : TO := fun _ H Q => Q none H
def tPart (t : TE) : TO := fun σ H Q => t σ H fun x H1 => ∃ i, x = .int i ∧ Q (some i) H1

theorem intsAre_of {ns : List Int} : ∀ {us : List Value}, Vals (ns.map V.int) us → IntsAre us ns := by
  induction ns with
  | nil => intro us r; rw [List.map_nil] at r; cases r; exact .nil
  | cons n ns ih =>
    intro us r
    rw [List.map_cons] at r
    cases r with
    | cons r1 r2 =>
      obtain ⟨t, e⟩ := r1
      subst e
      exact .cons n t (ih r2)

section
variable {X : Cx} {e : Expr} {te : TE} {lo hi : Option Expr} {tl th : TO} {pos p2 : Pos}

theorem po_none : PO X none tNoPart := by
  intro pins s σ H Q I h
  rw [evalPart_none]
  exact wpAny_pure ⟨none, H, I, .none, h⟩
theorem po_some (h : PE X e te) : PO X (some e) (tPart te) := by
  intro pins s σ H Q I hw
  rw [evalPart_some]
  refine thn (h pins s σ H _ I hw) fun u s1 ⟨x, H1, I1, r1, q1⟩ => ?_
  obtain ⟨i, rfl, q⟩ := q1
  obtain ⟨t, rfl⟩ := r1
  exact ⟨some i, H1, I1, .int i t, q⟩

/-- what a slice of a value is, by values: the slice object stands at sl -/
def SlR (X : Cx) (r : V → Option Int → Option Int → Hp → VK → Prop) : Prop :=
  ∀ (pins : List (Addr × Obj)) (s : Shared) (σ : St) (H : Hp) (x : V) (v vl vu : Value) (lo hi : Option Int) (sl : Addr) (Q : VK), Inv X pins σ H s → RelV x v → s.heap.IsSliceOf sl vl vu .none → IsPart vl lo → IsPart vu hi → r x lo hi H Q →
    ∃ T id, typeLookup (.type T) "__getitem__" = pure (some (.builtin id)) ∧ s.TypeIs v T ∧ wpAny (model X.prog X.w) X.A (getItem v (.ref sl)) (EP X pins σ Q) X.xe s
def tSl (r : V → Option Int → Option Int → Hp → VK → Prop) (te : TE) (tl th : TO) : TE := fun σ H Q => te σ H fun x H1 => tl σ H1 fun l H2 => th σ H2 fun u H3 => r x l u H3 Q
/-- a[lo:hi], any a -/
theorem pe_slice {r : V → Option Int → Option Int → Hp → VK → Prop} (hr : SlR X r) (he : PE X e te) (hl : PO X lo tl) (hu : PO X hi th) : PE X (.Subscript e (.Slice lo hi none p2) pos) (tSl r te tl th) := by
  intro pins s σ H Q I h
  refine Subscript_ (thn (he pins s σ H _ I h) fun v s1 ⟨x, H1, I1, r1, q1⟩ => ?_)
  refine wpAny_Slice (thn (hl pins s1 σ H1 _ I1 q1) fun vl s2 ⟨l, H2, I2, pl, q2⟩ => thn (hu pins s2 σ H2 _ I2 q2) fun vu s3 ⟨u, H3, I3, pu, q3⟩ => ?_)
  rw [evalPart_none]
  refine wpAny_pure ?_
  have I4 : Inv X pins σ H3 { s3 with heap := s3.heap.push { cls := .type "slice", data := .fields #[vl, vu, .none] } } := I3.kept (t' := s3.toks) fun b ob q => Heap.get?_push_of_some _ q
  obtain ⟨T, id, hT, ht, hg⟩ := hr pins { s3 with heap := s3.heap.push { cls := .type "slice", data := .fields #[vl, vu, .none] } } σ H3 x v vl vu l u s3.heap.objs.size Q I4 r1 (Heap.IsSliceOf.new ..) pl pu q3
  show wpAny (model X.prog X.w) X.A (subscriptTail e (.Slice lo hi none p2) v (.ref s3.heap.objs.size)) (EP X pins σ Q) X.xe { s3 with heap := s3.heap.push { cls := .type "slice", data := .fields #[vl, vu, .none] } }
  exact tail_any (ops := [.ref s3.heap.objs.size, v]) ht hT hg (by with_unfolding_all rfl)

/-- the items of xs[lo:hi] -/
def cutV (xs : List V) (lo hi : Option Int) : List V := (xs.drop (HT.sIx xs.length 0 lo)).take (HT.sIx xs.length xs.length hi - HT.sIx xs.length 0 lo)
theorem cutV_length (xs : List V) (lo hi : Option Int) : (cutV xs lo hi).length ≤ xs.length := by
  unfold cutV
  rw [List.length_take, List.length_drop]
  omega
/-- t[lo:hi], not the whole of it (the whole would be t itself) -/
def rSlT (K : PySem.W.Frag) : V → Option Int → Option Int → Hp → VK → Prop := fun x lo hi H Q => ∃ a xs, x = .ref a ∧ SqT K H a xs ∧
  ¬ (HT.sIx xs.length 0 lo = 0 ∧ HT.sIx xs.length xs.length hi = xs.length) ∧ ∀ p, H p = none → Q (.ref p) (upd H p (.tup (cutV xs lo hi)))
theorem sl_tup : SlR X (rSlT X.K) := by
  intro pins s σ H x v vl vu lo hi sl Q I rx hs pl pu h
  obtain ⟨a, xs, rfl, hx, hw, q⟩ := h
  cases rx
  obtain ⟨its, r, ht, hz⟩ := I.tuple hx
  have hlen : its.toArray.size = xs.length := by rw [List.size_toArray]; exact r.length.symm
  refine ⟨"tuple", _, PyProof.Rows.slot_tuple_getitem.lookup, ht.typeIs, ?_⟩
  refine HT.getItem_tuple_cut ht hs pl pu (by rw [hlen]; exact hw) ?_ (by rw [hlen]; exact hz)
  rw [hlen]
  refine ⟨.ref s.heap.objs.size, _, I.laid (t' := s.toks) (o := .tup (cutV xs lo hi)) (fun b ob q => Heap.get?_push_of_some _ q) (Nat.le_refl _) ?_, rfl, q _ (I.hok.fresh (Nat.le_refl _))⟩
  exact ⟨Nat.le_trans (cutV_length xs lo hi) hz, _, (r.drop (HT.sIx xs.length 0 lo)).take (HT.sIx xs.length xs.length hi - HT.sIx xs.length 0 lo), IsTup.new _ _⟩

/-! ### t < u, t + u -/
def rLtT (K : PySem.W.Frag) : R2 := fun x y H Q => ∃ a b ns ms, x = .ref a ∧ y = .ref b ∧ SqT K H a (ns.map V.int) ∧ SqT K H b (ms.map V.int) ∧ Q (.bl (HT.lexLt ns ms)) H
/-- t + u, t not empty: u empty gives t itself -/
def rCatT (K : PySem.W.Frag) : R2 := fun x y H Q => ∃ a b xs ys, x = .ref a ∧ y = .ref b ∧ SqT K H a xs ∧ SqT K H b ys ∧ xs ≠ [] ∧ xs.length + ys.length ≤ sizeLine ∧
  (ys = [] → Q (.ref a) H) ∧ (ys ≠ [] → ∀ p, H p = none → Q (.ref p) (upd H p (.tup (xs ++ ys))))
theorem Vals.nil_iff {xs : List V} {us : List Value} (r : Vals xs us) : us = [] ↔ xs = [] := by
  cases r with
  | nil => simp
  | cons _ _ => simp
end
end L2

namespace L2
open PySem PySem.Spec PyProof.Rows

/-! ### places -/
/-- the place that an index of any sign means -/
def ixN (n : Nat) (i : Int) : Option Nat := if 0 ≤ i then (if i < n then some i.toNat else none) else if -(n : Int) ≤ i then some (i + n).toNat else none
def atI {α : Type} (xs : List α) (i : Int) : Option α := (ixN xs.length i).bind fun j => xs[j]?
theorem ixN_seq {n : Nat} {i : Int} {j : Nat} (h : ixN n i = some j) : seqIndex? i n = some j ∧ j < n ∧ -(n : Int) ≤ i ∧ i < n := by
  unfold ixN at h
  by_cases h0 : 0 ≤ i
  · rw [if_pos h0] at h
    by_cases h1 : i < n
    · rw [if_pos h1] at h
      have e : i.toNat = j := Option.some.inj h
      exact ⟨by rw [seqIndex_of h0 h1, e], by omega, by omega, h1⟩
    · rw [if_neg h1] at h; cases h
  · rw [if_neg h0] at h
    by_cases h1 : -(n : Int) ≤ i
    · rw [if_pos h1] at h
      have e : (i + n).toNat = j := Option.some.inj h
      exact ⟨by rw [seqIndex_neg (by omega) h1, e], by omega, h1, by omega⟩
    · rw [if_neg h1] at h; cases h
theorem atI_get {α : Type} {xs : List α} {i : Int} {v : α} (h : atI xs i = some v) : ∃ j, seqIndex? i xs.length = some j ∧ xs[j]? = some v ∧ j < xs.length ∧ -(xs.length : Int) ≤ i ∧ i < xs.length := by
  unfold atI at h
  cases e : ixN xs.length i with
  | none => rw [e] at h; cases h
  | some j =>
    rw [e] at h
    obtain ⟨h1, h2, h3, h4⟩ := ixN_seq e
    exact ⟨j, h1, h, h2, h3, h4⟩
theorem atI_nat {α : Type} {xs : List α} {j : Nat} {v : α} (h : xs[j]? = some v) : atI xs (j : Int) = some v := by
  have hj : j < xs.length := (List.getElem?_eq_some_iff.mp h).1
  have e : ixN xs.length (j : Int) = some j := by
    unfold ixN
    rw [if_pos (by omega), if_pos (by omega)]; simp
  unfold atI; rw [e]; exact h
/-! ### what may be subscripted -/
/-- what stands as an index of a plain subscript -/
def PlainIx (b : Expr) : Prop := ∀ o i, subscripted b false o i = operate [o, i] (getItem o i)
/-- a subscript by values -/
def IxR (X : Cx) (r : R2) : Prop :=
  ∀ (value slice : Expr) (pins : List (Addr × Obj)) (s : Shared) (σ : St) (H : Hp) (x y : V) (v u : Value) (Q : VK), Inv X pins σ H s → RelV x v → RelV y u → r x y H Q →
    subscripted slice false v u = operate [v, u] (getItem v u) → wpAny (model X.prog X.w) X.A (subscriptTail value slice v u) (EP X pins σ Q) X.xe s
/-- a call of a builtin's method by values: the receiver, the arguments -/
def MtR (X : Cx) (id : String) (r : V → List V → Hp → VK → Prop) : Prop :=
  ∀ (pins : List (Addr × Obj)) (s : Shared) (σ : St) (H : Hp) (x : V) (xs : List V) (v : Value) (us : List Value) (Q : VK), Inv X pins σ H s → RelV x v → Vals xs us → r x xs H Q →
    wpAny (model X.prog X.w) X.A (call (.builtin id) (v :: us)) (EP X pins σ Q) X.xe s
section
variable {X : Cx} {a b : Expr} {ta tb : TE} {pos : Pos}
/-- a[b] -/
theorem pe_ix {r : R2} (hr : IxR X r) (ha : PE X a ta) (hb : PE X b tb) (hs : PlainIx b) : PE X (.Subscript a b pos) (tOp r ta tb) := by
  intro pins s σ H Q I h
  exact Subscript_ (binT ha hb I h fun v u s2 x y H2 I2 rx ry q => hr a b pins s2 σ H2 x y v u Q I2 rx ry q (hs _ _))

def rIxL (K : PySem.W.Frag) : R2 := fun x y H Q => ∃ p xs i v, x = .ref p ∧ y = .int i ∧ SqL K H p xs ∧ atI xs i = some v ∧ Q v H
def rIxT (K : PySem.W.Frag) : R2 := fun x y H Q => ∃ p xs i v, x = .ref p ∧ y = .int i ∧ SqT K H p xs ∧ atI xs i = some v ∧ Q v H
def rIxS : R2 := fun x y H Q => ∃ z i c, x = .str z ∧ y = .int i ∧ z.length ≤ sizeLine ∧ atI z.cps.toList i = some c ∧ Q (.str ⟨#[c]⟩) H
theorem ix_list : IxR X (rIxL X.K) := by
  intro value slice pins s σ H x y v u Q I rx ry h hs
  obtain ⟨p, xs, i, z, rfl, rfl, hq, he, q⟩ := h
  cases rx
  obtain ⟨t, rfl⟩ := ry
  obtain ⟨its, r, pl, hz⟩ := I.list hq
  obtain ⟨j, h1, h2, h3, h4, h5⟩ := atI_get he
  obtain ⟨w, ew, rw'⟩ := r.get h2
  have hl := r.length
  have hn := line63
  have fin : EP X pins σ Q w s := ⟨z, H, I, rw', q⟩
  by_cases h0 : 0 ≤ i
  · have hj : i.toNat = j := by
      rw [seqIndex_of h0 h5] at h1
      exact Option.some.inj h1
    exact item_listR pl.isList h0 (by omega) (by rw [hj]; simpa using ew) fin hs
  · have hj : (i + (its.toArray.size : Int)).toNat = j := by
      rw [seqIndex_neg (by omega) h4] at h1
      rw [List.size_toArray, ← hl]
      exact Option.some.inj h1
    exact subscriptTail_builtinR (x := w) pl.isList.typeIs slot_list_getitem.lookup
      (wpAny_getItem_list_neg (Q := fun r s' => r = w ∧ EP X pins σ Q r s') pl.isList (by omega) (by rw [List.size_toArray] <;> omega) (by omega) (by rw [hj]; simpa using ew) ⟨rfl, fin⟩) hs
theorem ix_tup : IxR X (rIxT X.K) := by
  intro value slice pins s σ H x y v u Q I rx ry h hs
  obtain ⟨p, xs, i, z, rfl, rfl, hq, he, q⟩ := h
  cases rx
  obtain ⟨t, rfl⟩ := ry
  obtain ⟨its, r, pl, hz⟩ := I.tuple hq
  obtain ⟨j, h1, h2, h3, h4, h5⟩ := atI_get he
  obtain ⟨w, ew, rw'⟩ := r.get h2
  have hl := r.length
  have hn := line63
  have fin : EP X pins σ Q w s := ⟨z, H, I, rw', q⟩
  exact subscriptTail_builtinR (x := w) pl.typeIs slot_tuple_getitem.lookup
    (getItem_tuple (j := j) (Q := fun r s' => r = w ∧ EP X pins σ Q r s') pl (by omega) (by omega) (by rw [List.size_toArray, ← hl]; exact h1) (by simpa using ew) ⟨rfl, fin⟩) hs
/-- list, tuple or str -/
def rIx (K : PySem.W.Frag) : R2 := fun x y H Q => rIxL K x y H Q ∨ rIxT K x y H Q ∨ rIxS x y H Q
/-! ### xs[i] = v, any sign -/
/-- the list's object behind a store -/
theorem mapSeq_set (its : List Value) (n j : Nat) (u : Value) : Obj.mapSeq (·.setIfInBounds j u) { cls := .type "list", data := .seq its.toArray n } = { cls := .type "list", data := .seq (its.set j u).toArray n } := by
  simp [Obj.mapSeq]
theorem Inv.lst {pins : List (Addr × Obj)} {σ : St} {H : Hp} {s : Shared} {p : Addr} {xs : List V} (I : Inv X pins σ H s) (h : H p = some (.lst xs)) :
    ∃ (its : List Value) (n : Nat), Vals xs its ∧ s.heap.get? p = some { cls := .type "list", data := .seq its.toArray n } ∧ xs.length ≤ sizeLine := by
  obtain ⟨z, its, n, r, e⟩ := I.hok p _ h
  exact ⟨its, n, r, e, z⟩
/-- the list at p is written by an update of its object -/
theorem Inv.lstUpd {pins : List (Addr × Obj)} {σ : St} {H : Hp} {s : Shared} {p : Addr} {xs ys : List V} {its its' : List Value} {n n' : Nat} {f : Obj → Obj} (I : Inv X pins σ H s) (h : H p = some (.lst xs))
    (ho : s.heap.get? p = some { cls := .type "list", data := .seq its.toArray n }) (hf : f { cls := .type "list", data := .seq its.toArray n } = { cls := .type "list", data := .seq its'.toArray n' }) (r : Vals ys its') (hz : ys.length ≤ sizeLine) (t : Nat) :
    Inv X pins σ (upd H p (.lst ys)) { s with heap := s.heap.update p f, toks := t } := by
  have e : (s.heap.update p f).get? p = some { cls := .type "list", data := .seq its'.toArray n' } := by
    rw [Heap.get?_update_self f ho (by rw [hf] <;> rfl), hf]
  refine I.write (x := p) (e := p) (by rw [h]; trivial) (.inl rfl) (fun b u hb q => (Heap.get?_update_other _ _ (Ne.symm hb)).trans q) ⟨_, e⟩ ?_
  exact ⟨hz, its', n', r, e⟩
def rSetL : V → V → V → Hp → (Hp → Prop) → Prop := fun o i v H Q => ∃ p xs k j, o = .ref p ∧ i = .int k ∧ H p = some (.lst xs) ∧ ixN xs.length k = some j ∧ Q (upd H p (.lst (xs.set j v)))
theorem set_list : PSet X rSetL := by
  intro pins s σ H o i v ov iv u Q I ro ri rv h
  obtain ⟨p, xs, k, j, rfl, rfl, hp, hj, q⟩ := h
  cases ro
  obtain ⟨t, rfl⟩ := ri
  obtain ⟨its, n, r, ho, hz⟩ := I.lst hp
  obtain ⟨h1, h2, h3, h4⟩ := ixN_seq hj
  have hl := r.length
  have hn := line63
  have I' : Inv X pins σ (upd H p (.lst (xs.set j v))) { s with heap := s.heap.update p (Obj.mapSeq (·.setIfInBounds j u)) } :=
    I.lstUpd hp ho (mapSeq_set its n j u) (r.set rv j) (by rw [List.length_set]; exact hz) s.toks
  by_cases h0 : 0 ≤ k
  · have hk : k.toNat = j := by
      rw [seqIndex_of h0 h4] at h1
      exact Option.some.inj h1
    exact PySem.W.ki_setAt ho h0 (by omega) (by rw [List.size_toArray, ← hl]; exact h4) (by rw [hk]; exact ⟨_, I', q⟩)
  · have hk : (k + (its.toArray.size : Int)).toNat = j := by
      rw [seqIndex_neg (by omega) h3] at h1
      rw [List.size_toArray, ← hl]
      exact Option.some.inj h1
    exact PySem.W.ki_setBack ho (by omega) (by rw [List.size_toArray, ← hl]; exact h3) (by omega) (by rw [hk]; exact ⟨_, I', q⟩)

/-! ### slices -/
theorem slice_bounds (lo hi : Option Int) (n : Nat) : (sliceBounds lo hi none n).1 = ((HT.sIx n 0 lo : Nat) : Int) ∧ (sliceBounds lo hi none n).2.1 = ((HT.sIx n n hi : Nat) : Int) ∧ (sliceBounds lo hi none n).2.2 = 1 := by
  refine ⟨?_, ?_, rfl⟩
  · cases lo with
    | none => simp [sliceBounds, HT.sIx]
    | some i =>
      simp only [sliceBounds, HT.sIx, Option.getD_none, show (1 : Int) > 0 by decide, if_true]
      by_cases h : i < 0
      · simp only [h, if_true] <;> omega
      · simp only [h, if_false] <;> omega
  · cases hi with
    | none => simp [sliceBounds, HT.sIx]
    | some i =>
      simp only [sliceBounds, HT.sIx, Option.getD_none, show (1 : Int) > 0 by decide, if_true]
      by_cases h : i < 0
      · simp only [h, if_true] <;> omega
      · simp only [h, if_false] <;> omega
theorem slicePick_cut (its : List Value) (lo hi : Option Int) : slicePick its.toArray lo hi none = ((its.drop (HT.sIx its.length 0 lo)).take (HT.sIx its.length its.length hi - HT.sIx its.length 0 lo)).toArray := by
  obtain ⟨h1, h2, h3⟩ := slice_bounds lo hi its.toArray.size
  unfold slicePick
  rw [h1, h2, h3]
  simp only [sliceRange_one, pick_run, List.size_toArray] <;> rfl
/-- xs[lo:hi] of a list: a new list -/
def rSlL (K : PySem.W.Frag) : V → Option Int → Option Int → Hp → VK → Prop := fun x lo hi H Q => ∃ a xs, x = .ref a ∧ SqL K H a xs ∧ ∀ p, H p = none → Q (.ref p) (upd H p (.lst (cutV xs lo hi)))
theorem sl_list : SlR X (rSlL X.K) := by
  intro pins s σ H x v vl vu lo hi sl Q I rx hs pl pu h
  obtain ⟨a, xs, rfl, hx, q⟩ := h
  cases rx
  obtain ⟨its, r, ht, hz⟩ := I.list hx
  have hlen := r.length
  refine ⟨"list", _, slot_list_getitem.lookup, ht.isList.typeIs, ?_⟩
  refine wpAny_getItem_list_slice ht.isList hs pl pu .none (by simp) ?_ (by rw [List.size_toArray] <;> omega)
  rw [slicePick_cut, ← hlen]
  refine ⟨.ref s.heap.objs.size, _, I.laid (t' := s.toks) (o := .lst (cutV xs lo hi)) (fun b ob q => Heap.get?_push_of_some _ q) (Nat.le_refl _) ?_, rfl, q _ (I.hok.fresh (Nat.le_refl _))⟩
  exact ⟨Nat.le_trans (cutV_length xs lo hi) hz, _, 0, (r.drop (HT.sIx xs.length 0 lo)).take (HT.sIx xs.length xs.length hi - HT.sIx xs.length 0 lo), Heap.get?_push_size _ rfl⟩

/-! ### in, not in: flat items -/
def flatV : V → Bool
  | .non => true
  | .bl _ => true
  | .int _ => true
  | .str _ => true
  | _ => false
/-- == of flat values -/
def eqV : V → V → Bool
  | .non, .non => true
  | .bl a, .bl b => a == b
  | .bl a, .int b => (if a then 1 else 0) == b
  | .int a, .bl b => a == (if b then 1 else 0)
  | .int a, .int b => a == b
  | .str a, .str b => a == b
  | _, _ => false
/-- the items' answers, read off the values (a value's own answer does not lean on its token) -/
def eqU (x : V) (u : Value) : Bool := match u with
  | .none => eqV .non x
  | .bool b => eqV (.bl b) x
  | .int i _ => eqV (.int i) x
  | .str z _ => eqV (.str z) x
  | _ => false
def inV (x : V) (xs : List V) : Bool := xs.any fun y => eqV y x
/-- x in a list or tuple of flat items -/
def rIn (K : PySem.W.Frag) (neg : Bool) : R2 := fun x y H Q => ∃ p xs, y = .ref p ∧ (SqL K H p xs ∨ SqT K H p xs) ∧ flatV x = true ∧ xs.all flatV = true ∧ Q (.bl (if neg then !inV x xs else inV x xs)) H
/-! ### len, list(x), tuple(x) of any list or tuple that is read -/
theorem call_len_seq : CallR X (.builtin "len") (fun xs H Q => ∃ p ys, xs = [.ref p] ∧ (SqL X.K H p ys ∨ SqT X.K H p ys) ∧ Q (.int ys.length) H) := by
  intro pins s σ H xs us Q I r h
  obtain ⟨p, ys, rfl, hq, q⟩ := h
  obtain ⟨u, rfl, rx⟩ := vals1 r
  cases rx
  have hn := line63
  rcases hq with hq | hq
  · obtain ⟨its, r', pl, hz⟩ := I.list hq
    have hlen := r'.length
    exact Calls.call_len_list pl.isList (by simp only [List.size_toArray] <;> omega) ⟨.int ys.length, H, I.tok _, ⟨s.toks + 1, by rw [List.size_toArray, hlen]⟩, q⟩
  · obtain ⟨its, r', pl, hz⟩ := I.tuple hq
    have hlen := r'.length
    exact len_tuple pl (by simp only [List.size_toArray] <;> omega) ⟨.int ys.length, H, I.tok _, ⟨s.toks + 1, by rw [List.size_toArray, hlen]⟩, q⟩
theorem call_tuple_of : CallR X (.type "tuple") (fun xs H Q => ∃ p ys, xs = [.ref p] ∧ ((SqL X.K H p ys ∧ ∀ l, H l = none → Q (.ref l) (upd H l (.tup ys))) ∨ (SqT X.K H p ys ∧ Q (.ref p) H))) := by
  intro pins s σ H xs us Q I r h
  obtain ⟨p, ys, rfl, h⟩ := h
  obtain ⟨u, rfl, rx⟩ := vals1 r
  cases rx
  rcases h with ⟨hq, q⟩ | ⟨hq, q⟩
  · obtain ⟨its, r', pl, hz⟩ := I.list hq
    have hlen := r'.length
    refine call_tuple_list pl.isList (fun h' kp => ?_) (by simp only [List.size_toArray] <;> omega)
    have I1 : Inv X pins σ H { s with heap := h' } := I.kept (t' := s.toks) kp
    have I2 : Inv X pins σ (upd H h'.objs.size (.tup ys)) { s with heap := h'.push { cls := .type "tuple", data := .seq its.toArray } } :=
      I1.laid (t' := s.toks) (fun b o e => Heap.get?_push_of_some _ e) (Nat.le_refl _) (show ObjOk X.prog X.w _ _ _ (.tup ys) from ⟨hz, its, r', IsTup.new _ _⟩)
    exact ⟨.ref h'.objs.size, _, I2, rfl, q _ (I1.hok.fresh (Nat.le_refl _))⟩
  · obtain ⟨its, r', pl, hz⟩ := I.tuple hq
    exact call_tuple_same pl ⟨.ref p, H, I, rfl, q⟩

/-! ### the call of a builtin's method: o.m(..) -/
/-- the value is of that builtin type -/
def tyV (K : PySem.W.Frag) (T : String) (x : V) (H : Hp) : Prop := match x with
  | .str _ => T = "str"
  | .int _ => T = "int"
  | .ref p => (T = "list" ∧ ∃ xs, SqL K H p xs) ∨ (T = "tuple" ∧ ∃ o, K.lookup p = some o ∧ o.cls = .type "tuple" ∧ o.dict = none) ∨
      (T = "dict" ∧ ((∃ kvs, H p = some (.dK kvs)) ∨ ∃ kvs, H p = some (.dT kvs))) ∨ (T = "set" ∧ ∃ S n, H p = some (.set S n))
  | _ => False
theorem tyV_is {pins : List (Addr × Obj)} {σ : St} {H : Hp} {s : Shared} {T : String} {x : V} {v : Value} (I : Inv X pins σ H s) (r : RelV x v) (ty : tyV X.K T x H) :
    s.TypeIs v T ∧ ∀ a, v = .ref a → ∃ ob, s.heap.get? a = some ob ∧ ob.dict = none := by
  cases x with
  | str z =>
    obtain ⟨t, rfl⟩ := r
    cases (show T = "str" from ty)
    exact ⟨typeIs_str s z t, fun _ e => nomatch e⟩
  | int i =>
    obtain ⟨t, rfl⟩ := r
    cases (show T = "int" from ty)
    exact ⟨typeIs_int s i t, fun _ e => nomatch e⟩
  | ref p =>
    cases r
    rcases ty with ⟨rfl, xs, hq⟩ | ⟨rfl, o, hk, hc, hd⟩ | ⟨rfl, hk⟩ | ⟨rfl, S, n, hk⟩
    · obtain ⟨its, _, pl, _⟩ := I.list hq
      refine ⟨pl.isList.typeIs, fun a e => ?_⟩
      cases e
      obtain ⟨o, n, e, c, hd, _⟩ := pl
      exact ⟨o, e, hd⟩
    · refine ⟨⟨o, I.kIn p o hk, hc⟩, fun a e => ?_⟩
      cases e
      exact ⟨o, I.kIn _ o hk, hd⟩
    · have z : ∃ o, s.heap.get? p = some o ∧ o.ExactDict := by
        rcases hk with ⟨kvs, hk⟩ | ⟨kvs, hk⟩
        · obtain ⟨_, _, _, _, o, _, _, e, ex, _⟩ := I.hok p _ hk
          exact ⟨o, e, ex⟩
        · obtain ⟨_, _, _, _, o, _, _, e, ex, _⟩ := I.hok p _ hk
          exact ⟨o, e, ex⟩
      obtain ⟨o, e, ex⟩ := z
      refine ⟨⟨o, e, ex.1⟩, fun a e2 => ?_⟩
      cases e2
      exact ⟨o, e, ex.2.1⟩
    · obtain ⟨o, _, _, _, e, ex, _⟩ := I.hok p _ hk
      refine ⟨⟨o, e, ex.1⟩, fun a e2 => ?_⟩
      cases e2
      exact ⟨o, e, ex.2.1⟩
  | _ => exact False.elim ty
def tBM0 (K : PySem.W.Frag) (T : String) (r : V → List V → Hp → VK → Prop) (to : TE) : TE := fun σ H Q => to σ H fun x H1 => tyV K T x H1 ∧ r x [] H1 Q
def tBM (K : PySem.W.Frag) (T : String) (r : V → List V → Hp → VK → Prop) (to : TE) (t : TA) : TE := fun σ H Q => to σ H fun x H1 => tyV K T x H1 ∧ t σ H1 fun xs H2 => r x xs H2 Q
variable {o e : Expr} {es : List Expr} {to : TE} {t : TA} {name : Str} {apos cpos : Pos} {T id : String} {r : V → List V → Hp → VK → Prop}
theorem pe_bm0 (pa : PlainAttrs T) (slot : Slot T name id) (hty : typeOf (.builtin id) = pure (.type "method_descriptor")) (hm : MtR X id r) (ho : PE X o to)
    (hbase : attributeBase o name X.env (eval o X.env) = eval o X.env := by rfl) (hline : (apos.endLine == cpos.line) = true := by rfl) : PE X (.Call (.Attribute o name apos) [] [] cpos) (tBM0 X.K T r to) := by
  intro pins s σ H Q I h
  refine wpAny_Call_method0_late hbase hline (thn (ho pins s σ H _ I h) fun v s1 ⟨x, H1, I1, r1, ty, q1⟩ => ?_)
  obtain ⟨h1, h2⟩ := tyV_is I1 r1 ty
  exact ⟨T, id, pa, slot, hty, h1, h2, Calls.callWith_builtin rfl (PySem.evalArgs_none (hm pins s1 σ H1 x [] v [] Q I1 r1 .nil q1))⟩
theorem pe_bm (pa : PlainAttrs T) (slot : Slot T name id) (hty : typeOf (.builtin id) = pure (.type "method_descriptor")) (hm : MtR X id r) (ho : PE X o to) (ha : PA X (e :: es) t)
    (hbase : attributeBase o name X.env (eval o X.env) = eval o X.env := by rfl)
    (hfew : ((backTo cpos (starEach (e :: es) X.env)).all (fun x => !x.1) && (backToKw cpos (keywordEach [] X.env)).all (fun x => x.1.isSome)
      && decide ((e :: es).length + ([] : List Keyword).length + (if ([] : List Keyword).isEmpty then 0 else 1) < 30)) = true := by rfl)
    (hline : (apos.endLine == cpos.line) = true := by rfl) (hs : starEach (e :: es) X.env = (false, eval e X.env) :: starEach es X.env := by rfl) (hplain : (backTo cpos (starEach es X.env)).any (·.1) = false := by rfl) :
    PE X (.Call (.Attribute o name apos) (e :: es) [] cpos) (tBM X.K T r to t) := by
  intro pins s σ H Q I h
  refine wpAny_Call_method_late hbase hfew hline rfl (thn (ho pins s σ H _ I h) fun v s1 ⟨x, H1, I1, r1, ty, q1⟩ => ?_)
  obtain ⟨h1, h2⟩ := tyV_is I1 r1 ty
  refine ⟨T, id, pa, slot, hty, h1, h2, ?_⟩
  have hA := ha cpos pins s1 σ H1 _ I1 q1
  rw [hs] at hA ⊢
  refine Calls.callWith_builtin (by show (false || (backTo cpos (starEach es X.env)).any (·.1)) = false; rw [hplain] <;> rfl) (Calls.evalArgs_plain ?_)
  exact thn hA fun us s2 ⟨vs, H2, I2, r2, q2⟩ => hm pins s2 σ H2 x vs v us Q I2 r1 r2 q2
/- xs.append(e), list.index on a module's tuple .. are MtR facts of 06m -/
end
end L2

namespace L2
open PySem PySem.Spec PyProof.Rows

def MtM (X : Cx) (id : String) (r : V → List V → Hp → VK → Prop) : Prop :=
  ∀ (pins : List (Addr × Obj)) (s : Shared) (σ : St) (H : Hp) (x : V) (xs : List V) (v : Value) (us : List Value) (Q : VK), Inv X pins σ H s → RelV x v → Vals xs us → r x xs H Q →
    wpAny (model X.prog X.w) X.A (call (.builtin id) (v :: us)) (EP X pins σ Q) X.xe s

/-! ### lists of values -/
theorem Vals.one : ∀ {x : V} {us : List Value}, Vals [x] us → ∃ u, us = [u] ∧ RelV x u
  | _, _, .cons r .nil => ⟨_, rfl, r⟩
theorem Vals.zero : ∀ {us : List Value}, Vals [] us → us = []
  | _, .nil => rfl
section
variable {X : Cx} {pins : List (Addr × Obj)} {σ : St} {H : Hp} {s : Shared} {l b : Addr} {xs ys zs : List V}

/-! ### the two steps: a tracked list is rewritten, a new list is laid -/
theorem Inv.lset {its its' : List Value} {n : Nat} {f : Array Value → Array Value} {t' : Nat} (I : Inv X pins σ H s) (hH : H l = some (.lst xs))
    (e : s.heap.get? l = some { cls := .type "list", data := .seq its.toArray n }) (hf : f its.toArray = its'.toArray) (hv : Vals ys its') (hz : ys.length ≤ sizeLine) :
    Inv X pins σ (upd H l (.lst ys)) { s with heap := s.heap.update l (Obj.mapSeq f), toks := t' } := by
  have q := PySem.IsL.update e f
  rw [hf] at q
  refine I.write (x := l) (e := l) (by rw [hH]; exact trivial) (.inl rfl) (fun b' u hb hu => (Heap.get?_update_other s.heap (Obj.mapSeq f) (Ne.symm hb)).trans hu) ⟨_, q⟩ ?_
  exact ⟨hz, its', _, hv, q⟩
theorem Inv.lnew {its : List Value} {t' : Nat} (I : Inv X pins σ H s) (hv : Vals ys its) (hz : ys.length ≤ sizeLine) :
    Inv X pins σ (upd H s.heap.objs.size (.lst ys)) { s with heap := s.heap.push { cls := .type "list", data := .seq its.toArray }, toks := t' } :=
  I.laid (fun _ _ q => Heap.get?_push_of_some _ q) (Nat.le_refl _) ⟨hz, its, 0, hv, Heap.get?_push_size _ rfl⟩
theorem Inv.fresh (I : Inv X pins σ H s) : H s.heap.objs.size = none := I.hok.fresh (Nat.le_refl _)
theorem Inv.lstM (I : Inv X pins σ H s) (hH : H l = some (.lst xs)) : xs.length ≤ sizeLine ∧ ∃ (its : List Value) (n : Nat), Vals xs its ∧ xs.length = its.length ∧ s.heap.get? l = some { cls := .type "list", data := .seq its.toArray n } := by
  obtain ⟨z, its, n, r, e⟩ := I.hok l _ hH
  exact ⟨z, its, n, r, r.length, e⟩

theorem notLongL {n : Nat} (h : n ≤ sizeLine) : Builtin.List.listTooLong n = false := by
  unfold Builtin.List.listTooLong
  exact decide_eq_false (by omega)
end

section
variable {X : Cx}

/-! ### methods -/
def rAppend : V → List V → Hp → VK → Prop := fun x vs H Q => ∃ l xs y, x = .ref l ∧ vs = [y] ∧ H l = some (.lst xs) ∧ xs.length < sizeLine ∧ Q .non (upd H l (.lst (xs ++ [y])))
theorem mt_append : MtM X "list.append" rAppend := by
  intro pins s σ H x vs v us Q I rx rv h
  obtain ⟨l, xs, y, rfl, rfl, hH, hz, q⟩ := h
  cases rx
  obtain ⟨u, rfl, ru⟩ := rv.one
  obtain ⟨z, its, n, r, hl, e⟩ := I.lstM hH
  refine call_meets F.slot_list_append ⟨_, e, rfl⟩ F.entry_list_append (F.args_list_append_2 _ _) (PySem.list_append l its.toArray n u (by rw [List.size_toArray]; omega)) ⟨e, ?_⟩
  refine ⟨.non, _, I.lset (its' := its ++ [u]) hH e (by simp) (r.append (.cons ru .nil)) ?_, rfl, q⟩
  rw [List.length_append, List.length_singleton]
  omega

def rExtend : V → List V → Hp → VK → Prop := fun x vs H Q => ∃ l b xs zs, x = .ref l ∧ vs = [.ref b] ∧ H l = some (.lst xs) ∧ H b = some (.lst zs) ∧ xs.length + zs.length ≤ sizeLine ∧ Q .non (upd H l (.lst (xs ++ zs)))
theorem mt_extend : MtM X "list.extend" rExtend := by
  intro pins s σ H x vs v us Q I rx rv h
  obtain ⟨l, b, xs, zs, rfl, rfl, hH, hB, hz, q⟩ := h
  cases rx
  obtain ⟨u, rfl, ru⟩ := rv.one
  cases ru
  obtain ⟨z, its, n, r, hl, e⟩ := I.lstM hH
  obtain ⟨z2, its2, n2, r2, hl2, e2⟩ := I.lstM hB
  have hsz : its.toArray.size + its2.toArray.size ≤ sizeLine := by rw [List.size_toArray, List.size_toArray]; omega
  have hlong : ¬ (!its.toArray.isEmpty && Builtin.List.listTooLong (its.toArray.size + its2.toArray.size)) = true := by
    rw [notLongL hsz, Bool.and_false]
    exact Bool.false_ne_true
  refine call_meets F.slot_list_extend ⟨_, e, rfl⟩ F.entry_list_extend (F.args_list_extend_2 _ _)
    (AutoSeq1.list_extend_list_list_0 l its.toArray n b its2.toArray n2 hlong (by rw [List.size_toArray]; omega) (by omega)) ⟨e, e2, ?_⟩
  refine ⟨.non, _, I.lset (its' := its ++ its2) hH e (by simp) (r.append r2) ?_, rfl, q⟩
  rw [List.length_append]
  omega

def rPop : V → List V → Hp → VK → Prop := fun x vs H Q => ∃ l xs y, x = .ref l ∧ vs = [] ∧ H l = some (.lst xs) ∧ xs[xs.length - 1]? = some y ∧ Q y (upd H l (.lst xs.dropLast))
def rPopAt : V → List V → Hp → VK → Prop := fun x vs H Q => ∃ l xs i k y, x = .ref l ∧ vs = [.int i] ∧ H l = some (.lst xs) ∧ -(2 ^ 63) ≤ i ∧ i < 2 ^ 63 ∧ seqIndex? i xs.length = some k ∧ xs[k]? = some y ∧ Q y (upd H l (.lst (xs.eraseIdx k)))
def rReverse : V → List V → Hp → VK → Prop := fun x vs H Q => ∃ l xs, x = .ref l ∧ vs = [] ∧ H l = some (.lst xs) ∧ Q .non (upd H l (.lst xs.reverse))
def rClear : V → List V → Hp → VK → Prop := fun x vs H Q => ∃ l xs, x = .ref l ∧ vs = [] ∧ H l = some (.lst xs) ∧ Q .non (upd H l (.lst []))
/-! ### list + list, list += list, list * int -/
def rCat : R2 := fun x y H Q => ∃ l b xs zs, x = .ref l ∧ y = .ref b ∧ H l = some (.lst xs) ∧ H b = some (.lst zs) ∧ xs.length + zs.length ≤ sizeLine ∧ ∀ p, H p = none → Q (.ref p) (upd H p (.lst (xs ++ zs)))
/-- a list times an int (a negative one is nothing) -/
def rRep : R2 := fun x y H Q => ∃ l k xs, x = .ref l ∧ y = .int k ∧ H l = some (.lst xs) ∧ -(2 ^ 63) ≤ k ∧ k < 2 ^ 63 ∧ xs.length * k.toNat ≤ sizeLine ∧
  ∀ p, H p = none → Q (.ref p) (upd H p (.lst (List.replicate k.toNat xs).flatten))
/-! ### del xs[i] -/
end

/-! ### xs[a:b] = ys -/
section
variable {prog : Program} {w : World} {A : Around} {E : Value → Shared → Prop} {s : Shared}
end

section
variable {X : Cx}
end
end L2

namespace L2
open PySem PySem.Spec PyProof.Rows

/-! ### lists of pairs as tables -/
section
variable {κ : Type} [DecidableEq κ]
def valV (kvs : List (κ × V)) (k : κ) : Option V := (kvs.find? fun kv => decide (kv.1 = k)).map (·.2)
/-- in its place, or at the end -/
def putK (kvs : List (κ × V)) (k : κ) (v : V) : List (κ × V) :=
  if (kvs.any fun kv => decide (kv.1 = k)) = true then kvs.map (fun kv => if kv.1 = k then (kv.1, v) else kv) else kvs ++ [(k, v)]
def dropK (kvs : List (κ × V)) (k : κ) : List (κ × V) := kvs.filter fun kv => decide (kv.1 ≠ k)

theorem valV_pos {p : κ × V} {r : List (κ × V)} {k : κ} (e : p.1 = k) : valV (p :: r) k = some p.2 := by simp [valV, List.find?_cons, e]
theorem valV_neg {p : κ × V} {r : List (κ × V)} {k : κ} (e : ¬ p.1 = k) : valV (p :: r) k = valV r k := by simp [valV, List.find?_cons, e]
theorem valV_any (k : κ) : ∀ kvs : List (κ × V), (kvs.any fun kv => decide (kv.1 = k)) = (valV kvs k).isSome
  | [] => rfl
  | p :: r => by
    rw [List.any_cons]
    by_cases e : p.1 = k
    · simp only [valV_pos e, decide_eq_true e, Bool.true_or, Option.isSome_some]
    · rw [valV_neg e, decide_eq_false e, Bool.false_or]; exact valV_any k r
theorem length_putK (kvs : List (κ × V)) (k : κ) (v : V) : (putK kvs k v).length ≤ kvs.length + 1 := by
  unfold putK
  split
  · rw [List.length_map]; omega
  · rw [List.length_append, List.length_cons, List.length_nil]; omega
theorem RelO.isSome_eq {o : Option V} {u : Option Value} (r : RelO o u) : o.isSome = u.isSome := by
  cases o with
  | none => cases u with
    | none => rfl
    | some _ => exact (show False from r).elim
  | some _ => cases u with
    | none => exact (show False from r).elim
    | some _ => rfl
theorem RelO.getD {o : Option V} {u : Option Value} {d : V} {d' : Value} (r : RelO o u) (rd : RelV d d') : RelV (o.getD d) (u.getD d') := by
  cases o with
  | none => cases u with
    | none => exact rd
    | some _ => exact (show False from r).elim
  | some _ => cases u with
    | none => exact (show False from r).elim
    | some _ => exact r

/-- raw tables of the same keys -/
theorem KV.val {kvs : List (κ × V)} {vs : List (κ × Value)} (r : KV kvs vs) (k : κ) : RelO (valV kvs k) (valueAt vs k) := by
  unfold KV at r
  induction r with
  | nil => exact True.intro
  | @cons p q ps qs h t ih =>
    obtain ⟨h1, h2⟩ := h
    by_cases e : p.1 = k
    · have e' : q.1 = k := h1.symm.trans e
      have b : valueAt (q :: qs) k = some q.2 := by simp [valueAt, List.find?_cons, e']
      rw [valV_pos e, b]; exact h2
    · have e' : ¬ q.1 = k := fun z => e (h1.trans z)
      have b : valueAt (q :: qs) k = valueAt qs k := by simp [valueAt, List.find?_cons, e']
      rw [valV_neg e, b]; exact ih
theorem KV.any {kvs : List (κ × V)} {vs : List (κ × Value)} (r : KV kvs vs) (k : κ) : (kvs.any fun kv => decide (kv.1 = k)) = vs.any fun kv => decide (kv.1 = k) := by
  unfold KV at r
  induction r with
  | nil => rfl
  | cons h t ih => rw [List.any_cons, List.any_cons, ih, h.1]
theorem KV.repl {kvs : List (κ × V)} {vs : List (κ × Value)} (r : KV kvs vs) (k : κ) {y : V} {u : Value} (ry : RelV y u) :
    KV (kvs.map fun kv => if kv.1 = k then (kv.1, y) else kv) (vs.map fun kv => if kv.1 = k then (kv.1, u) else kv) := by
  unfold KV at r ⊢
  induction r with
  | nil => exact .nil
  | @cons p q ps qs h t ih =>
    rw [List.map_cons, List.map_cons]
    refine .cons ?_ ih
    obtain ⟨h1, h2⟩ := h
    by_cases e : p.1 = k
    · rw [if_pos e, if_pos (h1.symm.trans e)]; exact ⟨h1, ry⟩
    · rw [if_neg e, if_neg (fun z => e (h1.trans z))]; exact ⟨h1, h2⟩
theorem KV.put {kvs : List (κ × V)} {vs : List (κ × Value)} (r : KV kvs vs) (k : κ) {y : V} {u : Value} (ry : RelV y u) : KV (putK kvs k y) (stored vs k u) := by
  unfold putK stored
  rw [r.any k]
  by_cases e : (vs.any fun kv => decide (kv.1 = k)) = true
  · rw [if_pos e, if_pos e]; exact r.repl k ry
  · rw [if_neg e, if_neg e]; exact Paired.snoc r ⟨rfl, ry⟩
theorem KV.length {kvs : List (κ × V)} {vs : List (κ × Value)} (r : KV kvs vs) : kvs.length = vs.length := Paired.length r
end


/-! ### a tracked dict, its keys ints and texts or tuples of these -/
theorem kV_is {P : Program} {w : World} {k : Key} {u : Value} (r : RelV (kV k) u) : (mixKind P w).is k u = true := by
  cases k with
  | inl i => obtain ⟨t, e⟩ := (show ∃ t, u = Value.int i t from r); subst e; exact mixKind_int P w i t
  | inr x => obtain ⟨t, e⟩ := (show ∃ t, u = Value.str x t from r); subst e; exact mixKind_str P w x t
theorem items_are {P : Program} {w : World} : ∀ {ks : List Key} {us : List Value}, Vals (ks.map kV) us → ItemsAre (mixKind P w) ks us
  | [], _, r => by rw [List.map_nil] at r; cases r; exact .nil
  | k :: ks, _, r => by
    rw [List.map_cons] at r
    cases r with
    | cons h t => exact .cons (kV_is h) (items_are t)

/-- raw entries of a dict with tuple keys -/
abbrev KT (H : Hp) : List (List Key × V) → List (List Key × Addr × Value) → Prop := Paired fun p q => p.1 = q.1 ∧ H q.2.1 = some (.tup (p.1.map kV)) ∧ RelV p.2 q.2.2
theorem KT.val {H : Hp} {kvs : List (List Key × V)} {xs : List (List Key × Addr × Value)} (r : KT H kvs xs) (k : List Key) : RelO (valV kvs k) ((atKey xs k).map (·.2)) := by
  induction r with
  | nil => exact True.intro
  | @cons p q ps qs h t ih =>
    obtain ⟨h1, _, h2⟩ := h
    by_cases e : p.1 = k
    · have e' : q.1 = k := h1.symm.trans e
      have b : atKey (q :: qs) k = some q.2 := by simp [atKey, List.find?_cons, e']
      rw [valV_pos e, b]; exact h2
    · have e' : ¬ q.1 = k := fun z => e (h1.trans z)
      have b : atKey (q :: qs) k = atKey qs k := by simp [atKey, List.find?_cons, e']
      rw [valV_neg e, b]; exact ih
theorem KT.repl {H : Hp} {kvs : List (List Key × V)} {xs : List (List Key × Addr × Value)} (r : KT H kvs xs) (k : List Key) {y : V} {u : Value} (ry : RelV y u) :
    KT H (kvs.map fun kv => if kv.1 = k then (kv.1, y) else kv) (xs.map (putAt k u)) := by
  induction r with
  | nil => exact .nil
  | @cons p q ps qs h t ih =>
    rw [List.map_cons, List.map_cons]
    refine .cons ?_ ih
    obtain ⟨h1, h2, h3⟩ := h
    unfold putAt
    by_cases e : p.1 = k
    · rw [if_pos e, if_pos (h1.symm.trans e)]; exact ⟨h1, h2, ry⟩
    · rw [if_neg e, if_neg (fun z => e (h1.trans z))]; exact ⟨h1, h2, h3⟩
theorem KT.put {H : Hp} {kvs : List (List Key × V)} {xs : List (List Key × Addr × Value)} (r : KT H kvs xs) (k : List Key) {b : Addr} {y : V} {u : Value} (hb : H b = some (.tup (k.map kV))) (ry : RelV y u) :
    KT H (putK kvs k y) (storedH xs k b u) := by
  have e : (kvs.any fun kv => decide (kv.1 = k)) = (atKey xs k).isSome := by
    rw [valV_any, (r.val k).isSome_eq, Option.isSome_map]
  unfold putK storedH
  rw [e]
  by_cases q : (atKey xs k).isSome = true
  · rw [if_pos q, if_pos q]; exact r.repl k ry
  · rw [if_neg q, if_neg q]; exact Paired.snoc r ⟨rfl, hb, ry⟩
theorem KT.keeps {H H' : Hp} {kvs : List (List Key × V)} {xs : List (List Key × Addr × Value)} (r : KT H kvs xs) (ht : ∀ b ys, H b = some (.tup ys) → H' b = some (.tup ys)) : KT H' kvs xs :=
  Paired.mapP r fun _ _ z => ⟨z.1, ht _ _ z.2.1, z.2.2⟩

section
variable {P : Program} {w : World} {H : Hp} {h : Heap} {a : Addr}
theorem rd_of {u : HO} (ok : HOk P w H h) (e : Rd H a u) : ObjOk P w H h a u := e.ok ok
theorem dk_rd {kvs : List (Key × V)} (ok : HOk P w H h) (e : Rd H a (.dK kvs)) : kvs.length ≤ sizeLine ∧ (a == sysModules) = false ∧ ∃ vs, KV kvs vs ∧ h.DictOf (mixKind P w) a vs :=
  show ObjOk P w H h a (.dK kvs) from rd_of ok e
theorem dk_of {kvs : List (Key × V)} (ok : HOk P w H h) (e : H a = some (.dK kvs)) : kvs.length ≤ sizeLine ∧ (a == sysModules) = false ∧ ∃ vs, KV kvs vs ∧ h.DictOf (mixKind P w) a vs := dk_rd ok (.inl e)
/-- a tracked tuple of ints and texts is a key -/
theorem key_of {ks : List Key} (ok : HOk P w H h) (e : H a = some (.tup (ks.map kV))) : (tupleKind (mixKind P w)).is h ks a := by
  obtain ⟨_, its, r, o, h1, h2, n, h3⟩ := (show ObjOk P w H h a (.tup (ks.map kV)) from ok a _ e)
  exact ⟨o, its.toArray, n, h1, h2, h3, by simpa using items_are r⟩
theorem dt_rd {kvs : List (List Key × V)} (ok : HOk P w H h) (e : Rd H a (.dT kvs)) : kvs.length ≤ sizeLine ∧ (a == sysModules) = false ∧
    ∃ xs, KT H kvs xs ∧ h.DictOfH (tupleKind (mixKind P w)) a xs := by
  obtain ⟨z, y, xs, r, o, es, ep, h1, h2, h3, h4, h5⟩ := (show ObjOk P w H h a (.dT kvs) from rd_of ok e)
  refine ⟨z, y, xs, r, o, es, ep, h1, h2, h3, h4, fun x hx => ?_, h5⟩
  have all : ∀ {l : List (List Key × V)} {m : List (List Key × Addr × Value)}, KT H l m → ∀ x ∈ m, (tupleKind (mixKind P w)).is h x.1 x.2.1 := by
    intro l m q
    induction q with
    | nil => intro x hx; exact nomatch hx
    | @cons p q ps qs hq t ih =>
      intro x hx
      rcases List.mem_cons.mp hx with e | hx
      · subst e
        exact key_of ok (by rw [← hq.1]; exact hq.2.1)
      · exact ih x hx
  exact all r x hx
theorem dt_of {kvs : List (List Key × V)} (ok : HOk P w H h) (e : H a = some (.dT kvs)) : kvs.length ≤ sizeLine ∧ (a == sysModules) = false ∧
    ∃ xs, KT H kvs xs ∧ h.DictOfH (tupleKind (mixKind P w)) a xs := dt_rd ok (.inl e)
end

/-- what the dict at a holds at the key y -/
def DGet (H : Hp) (a : Addr) (y : V) (r : Option V) : Prop :=
  (∃ kvs k, Rd H a (.dK kvs) ∧ y = kV k ∧ r = valV kvs k) ∨ ∃ kvs k b, Rd H a (.dT kvs) ∧ y = .ref b ∧ H b = some (.tup (k.map kV)) ∧ r = valV kvs k
/-- the heap behind a[y] = v -/
def DPut (H : Hp) (a : Addr) (y v : V) (H' : Hp) : Prop :=
  (∃ kvs k, H a = some (.dK kvs) ∧ y = kV k ∧ kvs.length < sizeLine ∧ H' = upd H a (.dK (putK kvs k v))) ∨
  ∃ kvs k b, H a = some (.dT kvs) ∧ y = .ref b ∧ H b = some (.tup (k.map kV)) ∧ kvs.length < sizeLine ∧ H' = upd H a (.dT (putK kvs k v))
theorem DGet.k {H : Hp} {a : Addr} {kvs : List (Key × V)} {k : Key} (e : H a = some (.dK kvs)) : DGet H a (kV k) (valV kvs k) := .inl ⟨kvs, k, .inl e, rfl, rfl⟩
theorem DPut.k {H : Hp} {a : Addr} {kvs : List (Key × V)} {k : Key} {v : V} (e : H a = some (.dK kvs)) (hl : kvs.length < sizeLine) : DPut H a (kV k) v (upd H a (.dK (putK kvs k v))) := .inl ⟨kvs, k, e, rfl, hl, rfl⟩
section
variable {X : Cx} {pins : List (Addr × Obj)} {σ : St} {H : Hp} {s : Shared} {a : Addr} {y v : V} {u r : Value} {o : Option V} {A : Around} {E : Value → Shared → Prop}

theorem Inv.big (I : Inv X pins σ H s) : sysModules < s.heap.objs.size := by
  have h : mainGlobals < s.heap.objs.size := (I.mod.glob.keeps I.bk).lt
  exact Nat.lt_trans (by decide) h

/-- d[y], there -/
theorem d_getItem {Q : Value → Shared → Prop} (hu : A.units + 1 < cLine) (I : Inv X pins σ H s) (g : DGet H a y (some v)) (ry : RelV y u) (h : ∀ w' s', Inv X pins σ H s' → RelV v w' → Q w' s') :
    wpAny (model X.prog X.w) A (getItem (.ref a) u) Q E s := by
  rcases g with ⟨kvs, k, e, ey, l⟩ | ⟨kvs, k, b, e, ey, eb, l⟩
  · subst ey
    obtain ⟨z, hd, vs, rel, dd⟩ := dk_rd I.hok e
    obtain ⟨w', hw, rw'⟩ := RelO.some_of (v := v) (o := valueAt vs k) (by rw [l]; exact rel.val k)
    exact wpAny_getItem_of (kV_is ry) dd.mapOf hw (h w' _ (I.tok _) rw')
  · subst ey
    cases (show u = Value.ref b from ry)
    obtain ⟨z, hd, xs, rel, dd⟩ := dt_rd I.hok e
    obtain ⟨w', hw, rw'⟩ := RelO.some_of (v := v) (o := (atKey xs k).map (·.2)) (by rw [l]; exact rel.val k)
    obtain ⟨p, hp, hp2⟩ := Option.map_eq_some_iff.mp hw
    refine wpAny_getItem_heap (tupleKind_room_in1 hu) (key_of I.hok eb) dd hp ?_
    rw [hp2]
    exact h w' _ (I.tok _) rw'
/-- a dict's object is replaced -/
theorem d_write {h' : Heap} {t' : Nat} {ob : HO} (I : Inv X pins σ H s) (mu : Mut (H a)) (hs : Heap.SameBut a s.heap h') (he : ∃ q, h'.get? a = some q) (new : ObjOk X.prog X.w (upd H a ob) h' a ob) :
    Inv X pins σ (upd H a ob) { s with heap := h', toks := t' } :=
  I.write (x := a) (e := a) mu (.inl rfl) (fun b q hb z => (hs.2 b hb).trans z) he new
theorem dk_new {P : Program} {w : World} {H' : Hp} {h' : Heap} {kvs : List (Key × V)} {vs : List (Key × Value)} (z : kvs.length ≤ sizeLine) (hd : (a == sysModules) = false) (rel : KV kvs vs) (dd : h'.DictOf (mixKind P w) a vs) :
    ObjOk P w H' h' a (.dK kvs) := ⟨z, hd, vs, rel, dd⟩
/-- d[y] = v -/
theorem d_setItem {H' : Hp} {Q : Unit → Shared → Prop} (hu : A.units + 1 < cLine) (I : Inv X pins σ H s) (g : DPut H a y v H') (ry : RelV y u) (rv : RelV v r) (h : ∀ s', Inv X pins σ H' s' → Q () s') :
    wpAny (model X.prog X.w) A (setItem (.ref a) u r) Q E s := by
  rcases g with ⟨kvs, k, e, ey, l, eH⟩ | ⟨kvs, k, b, e, ey, eb, l, eH⟩
  · subst ey eH
    obtain ⟨z, hd, vs, rel, dd⟩ := dk_of I.hok e
    have hz : vs.length ≤ sizeLine := by rw [← rel.length]; exact z
    have hl : (putK kvs k v).length ≤ sizeLine := by have := length_putK kvs k v; omega
    refine wpAny_setItem_pairs (hsz := hz) (kV_is ry) dd fun h' dd' hs => h _ ?_
    have he : ∃ q, h'.get? a = some q := let ⟨q, _, _, hq, _⟩ := dd'; ⟨q, hq⟩
    exact d_write I (by rw [e]; exact True.intro) hs he (dk_new hl hd (rel.put k rv) dd')
  · subst ey eH
    cases (show u = Value.ref b from ry)
    obtain ⟨z, hd, xs, rel, dd⟩ := dt_of I.hok e
    have hz : xs.length ≤ sizeLine := by rw [← Paired.length rel]; exact z
    have hl : (putK kvs k v).length ≤ sizeLine := by have := length_putK kvs k v; omega
    refine wpAny_setItem_heap (hsz := hz) (tupleKind_room_in1 hu) (key_of I.hok eb) dd fun h' dd' hs => h _ ?_
    obtain ⟨q, es, ep, hq, h2, h3, h4, _, h5⟩ := dd'
    refine d_write I (by rw [e]; exact True.intro) hs ⟨q, hq⟩ ⟨hl, hd, _, (rel.put k eb rv).keeps fun c ys ec => ?_, q, es, ep, hq, h2, h3, h4, h5⟩
    rw [upd_ne (ne_of ec e (fun z => nomatch z))]
    exact ec
end

section
variable {X : Cx} {pins : List (Addr × Obj)} {σ : St} {H : Hp} {s : Shared} {a : Addr} {kvs : List (Key × V)} {k : Key} {u : Value} {A : Around} {E : Value → Shared → Prop}
end


/-! ### readings and rules -/
/-- the element of a subscription, not a slice -/
def NoSl (i : Expr) : Prop := ∀ ov iv, subscripted i false ov iv = operate [ov, iv] (getItem ov iv)
theorem subD_of {prog : Program} {w : World} {A : Around} {E : Value → Shared → Prop} {s : Shared} {env : Env} {value slice : Expr} {pos : Pos} {T id : String} {Q : Value → Shared → Prop}
    (hl : typeLookup (.type T) "__getitem__" = pure (some (.builtin id))) (hs : NoSl slice)
    (h : wpAny (model prog w) A (eval value env) (fun o s₁ => wpAny (model prog w) A (eval slice env) (fun i s₂ => s₂.TypeIs o T ∧ wpAny (model prog w) A (getItem o i) Q E s₂) E s₁) E s) :
    wpAny (model prog w) A (eval (.Subscript value slice pos) env) Q E s := by
  refine Subscript_ (wpAny_mono h (fun o s₁ h₁ => wpAny_mono h₁ (fun i s₂ h₂ => ?_) fun _ _ x => x) fun _ _ x => x)
  obtain ⟨hT, h₂⟩ := h₂
  unfold subscriptTail
  refine wpAny_bind ?_
  rw [getitemInPython_of_ne hT.not_modules]
  refine wpAny_bind (wpAny_specialOf hT hl ?_)
  have fin : wpAny (model prog w) A (subscripted slice false o i) (fun r s₃ => wpAny (model prog w) A (letTemporaryGo value o r >>= fun _ => pure r) Q E s₃) E s₂ := by
    rw [hs o i]
    exact wpAny_operating (wpAny_mono h₂ (fun r s₃ h₃ => wpAny_bind (wpAny_letTemporaryGo (wpAny_pure h₃))) fun _ _ x => x)
  first
    | exact wpAny_pure (wpAny_bind fin)
    | exact wpAny_bind (wpAny_pure (wpAny_bind fin))
    | exact wpAny_bind fin

theorem dict_typeIs {X : Cx} {pins : List (Addr × Obj)} {σ : St} {H : Hp} {s : Shared} {a : Addr} {y : V} {o : Option V} (I : Inv X pins σ H s) (g : DGet H a y o) : s.TypeIs (.ref a) "dict" := by
  rcases g with ⟨kvs, k, e, _, _⟩ | ⟨kvs, k, b, e, _, _, _⟩
  · obtain ⟨_, _, vs, _, dd⟩ := dk_rd I.hok e
    exact dd.typeIs
  · obtain ⟨_, _, xs, _, dd⟩ := dt_rd I.hok e
    exact dd.typeIs
/-- d[y] -/
def tDGet (td ty : TE) : TE := fun σ H Q => td σ H fun x H1 => ty σ H1 fun y H2 => ∃ a v, x = .ref a ∧ DGet H2 a y (some v) ∧ Q v H2
/-- y in d, y not in d -/
def tDIn (ty td : TE) : TE := fun σ H Q => ty σ H fun y H1 => td σ H1 fun x H2 => ∃ a o, x = .ref a ∧ DGet H2 a y o ∧ Q (.bl o.isSome) H2
def tDNotIn (ty td : TE) : TE := fun σ H Q => ty σ H fun y H1 => td σ H1 fun x H2 => ∃ a o, x = .ref a ∧ DGet H2 a y o ∧ Q (.bl (!o.isSome)) H2
/-- d[y] = v -/
def sDPut (td ty tv : TE) : TS := fun D σ H => tv σ H fun v H1 => td σ H1 fun x H2 => ty σ H2 fun y H3 => ∃ a H4, x = .ref a ∧ DPut H3 a y v H4 ∧ D.nx σ H4
/-- d[y] op= v -/
def sDAug (td ty tv : TE) (rd : V → V → Hp → VK → Prop) : TS := fun D σ H => td σ H fun x H1 => ty σ H1 fun y H2 => ∃ a v, x = .ref a ∧ DGet H2 a y (some v) ∧
  tv σ H2 fun y2 H3 => rd v y2 H3 fun z H4 => ∃ H5, DPut H4 a y z H5 ∧ D.nx σ H5
/-- del d[y] -/
def sDDel (td ty : TE) : TS := fun D σ H => td σ H fun x H1 => ty σ H1 fun y H2 => ∃ a kvs k, x = .ref a ∧ H2 a = some (.dK kvs) ∧ y = kV k ∧ (valV kvs k).isSome = true ∧ D.nx σ (upd H2 a (.dK (dropK kvs k)))

section
variable {X : Cx} {o i e value : Expr} {pos pos' tpos : Pos} {td ty tv : TE}
theorem pe_dget (hu : X.A.units + 1 < cLine) (ho : PE X o td) (hi : PE X i ty) (hs : NoSl i) : PE X (.Subscript o i pos) (tDGet td ty) := by
  intro pins s σ H Q I h
  refine subD_of PySem.F.slot_dict_getitem.lookup hs (thn (ho pins s σ H _ I h) fun u s1 ⟨x, H1, I1, rx, q1⟩ => thn (hi pins s1 σ H1 _ I1 q1) fun iv s2 ⟨y, H2, I2, ry, a, v, ex, g, q2⟩ => ?_)
  subst ex
  obtain rfl : u = Value.ref a := rx
  exact ⟨dict_typeIs I2 g, d_getItem hu I2 g ry fun w' s3 I3 rw' => ⟨v, H2, I3, rw', q2⟩⟩
theorem ps_dput (hu : X.A.units + 1 < cLine) (ho : PE X o td) (hi : PE X i ty) (hv : PE X value tv) (hs : swapsWith value (some (.Subscript o i pos')) pos.line X.env = pure false) :
    PS X (.Assign [.Subscript o i pos'] value pos) (sDPut td ty tv) := by
  intro pins s σ H D I h
  refine wpAny_Assign_Subscript (thn (hv pins s σ H _ I h) fun r s1 ⟨v, H1, I1, rv, q1⟩ => thn (ho pins s1 σ H1 _ I1 q1) fun u s2 ⟨x, H2, I2, rx, q2⟩ => thn (hi pins s2 σ H2 _ I2 q2) fun iv s3 ⟨y, H3, I3, ry, a, H4, ex, g, q3⟩ => ?_) hs
  subst ex
  obtain rfl : u = Value.ref a := rx
  exact d_setItem hu I3 g ry rv fun s4 I4 => ⟨σ, H4, I4, q3⟩
end


/-! ### displays -/
theorem dk_empty {P : Program} {w : World} {H : Hp} (h : Heap) (hb : sysModules < h.objs.size) : ObjOk P w H (h.push { cls := .type "dict", data := .dict #[] }) h.objs.size (.dK []) :=
  ⟨Nat.zero_le _, beq_eq_false_iff_ne.mpr (Ne.symm (Nat.ne_of_lt hb)), [], .nil, Heap.DictOf.new h⟩
/-- {}, to be a dict of the kind that is wanted -/
def tDNewK : TE := fun _ H Q => ∀ p, H p = none → Q (.ref p) (upd H p (.dK []))
def tDNewT : TE := fun _ H Q => ∀ p, H p = none → Q (.ref p) (upd H p (.dT []))
section
variable {X : Cx} {pos : Pos}
theorem pe_dnewK : PE X (.Dict [] [] pos) tDNewK := fun pins s σ H Q I h =>
  wpAny_Dict_empty ⟨.ref s.heap.objs.size, _, I.laid (a := s.heap.objs.size) (o := .dK []) (t' := s.toks) (fun _ _ q => Heap.get?_push_of_some _ q) (Nat.le_refl _) (dk_empty s.heap I.big), rfl, h _ (I.hok.fresh (Nat.le_refl _))⟩
end

/-- the pairs of a display, from the left -/
def tPairs : List (TE × TE) → St → Hp → (List (V × V) → Hp → Prop) → Prop
  | [], _, H, Q => Q [] H
  | (tk, tv) :: r, σ, H, Q => tk σ H fun x H1 => tv σ H1 fun y H2 => tPairs r σ H2 fun ps H3 => Q ((x, y) :: ps) H3
abbrev VV : List (V × V) → List (Value × Value) → Prop := Paired fun p q => RelV p.1 q.1 ∧ RelV p.2 q.2
def PPs (X : Cx) (pos : Pos) (keys : List (Option Expr)) (values : List Expr) (trs : List (TE × TE)) : Prop :=
  ∀ (pins : List (Addr × Obj)) (s : Shared) (σ : St) (H : Hp) (Q : List (V × V) → Hp → Prop), Inv X pins σ H s → tPairs trs σ H Q →
    wpAny (model X.prog X.w) X.A (evalPairs (pairTrees keys values X.env pos)) (fun vs s' => ∃ ps H', Inv X pins σ H' s' ∧ VV ps vs ∧ Q ps H') X.xe s
theorem pps_nil {X : Cx} {pos : Pos} : PPs X pos [] [] [] := fun pins s σ H Q I h => pairTrees_nil_walk ⟨[], H, I, .nil, h⟩
theorem pps_cons {X : Cx} {pos : Pos} {k v : Expr} {ks : List (Option Expr)} {vs : List Expr} {tk tv : TE} {trs : List (TE × TE)} (hk : PE X k tk) (hv : PE X v tv) (hr : PPs X pos ks vs trs) :
    PPs X pos (some k :: ks) (v :: vs) ((tk, tv) :: trs) := fun pins s σ H Q I h =>
  pairTrees_cons_walk (thn (hk pins s σ H _ I h) fun u s1 ⟨x, H1, I1, rx, q1⟩ => thn (hv pins s1 σ H1 _ I1 q1) fun w2 s2 ⟨y, H2, I2, ry, q2⟩ =>
    thn (hr pins s2 σ H2 _ I2 q2) fun ws s3 ⟨ps, H3, I3, rel, q3⟩ => ⟨(x, y) :: ps, H3, I3, .cons ⟨rx, ry⟩ rel, q3⟩)

def mergeK (kvs more : List (Key × V)) : List (Key × V) := more.foldl (fun acc kv => putK acc kv.1 kv.2) kvs
theorem KV.merge : ∀ {more : List (Key × V)} {rs : List (Key × Value)} {kvs : List (Key × V)} {vs : List (Key × Value)}, KV more rs → KV kvs vs → KV (mergeK kvs more) (merged vs rs) := by
  intro more rs kvs vs r
  unfold KV at r
  induction r generalizing kvs vs with
  | nil => intro q; exact q
  | @cons p q ps qs h t ih =>
    intro r0
    have e : KV (putK kvs p.1 p.2) (stored vs q.1 q.2) := by
      have := r0.put p.1 h.2
      rw [← h.1]; exact this
    exact ih e
theorem length_mergeK : ∀ (more kvs : List (Key × V)), (mergeK kvs more).length ≤ kvs.length + more.length
  | [], kvs => by show kvs.length ≤ kvs.length + 0; omega
  | p :: r, kvs => by
    have h1 := length_mergeK r (putK kvs p.1 p.2)
    have h2 := length_putK kvs p.1 p.2
    show (mergeK (putK kvs p.1 p.2) r).length ≤ _
    rw [List.length_cons]; omega
theorem carries_of {P : Program} {w : World} : ∀ {kvs : List (Key × V)} {ws : List (Value × Value)}, VV (kvs.map fun kv => (kV kv.1, kv.2)) ws → ∃ rs, Carries (mixKind P w) ws rs ∧ KV kvs rs
  | [], _, r => by rw [List.map_nil] at r; cases r; exact ⟨[], True.intro, .nil⟩
  | p :: kvs, _, r => by
    rw [List.map_cons] at r
    cases r with
    | @cons a b as bs h t =>
      obtain ⟨rs, c, q⟩ := carries_of (P := P) (w := w) t
      obtain ⟨b1, b2⟩ := b
      exact ⟨(p.1, b2) :: rs, ⟨kV_is h.1, rfl, c⟩, .cons ⟨rfl, h.2⟩ q⟩
/-- {k: v, ..} with keys ints and texts; the new dict stands empty while the pairs are made -/
def tDisp (trs : List (TE × TE)) : TE := fun σ H Q => ∀ p, H p = none → tPairs trs σ (upd H p (.dK [])) fun ps H2 => H2 p = some (.dK []) ∧ ∃ kvs : List (Key × V), ps = kvs.map (fun kv => (kV kv.1, kv.2)) ∧ kvs.length ≤ 15 ∧ Q (.ref p) (upd H2 p (.dK (mergeK [] kvs)))
theorem pe_disp {X : Cx} {pos : Pos} {keys : List (Option Expr)} {values : List Expr} {trs : List (TE × TE)} (h : PPs X pos keys values trs) (hall : keys.all (·.isSome) = true) (hl : keys.length = values.length) (h0 : keys ≠ [])
    (h15 : keys.length ≤ 15) : PE X (.Dict keys values pos) (tDisp trs) := by
  intro pins s σ H Q I q
  have hn := I.hok.fresh (Nat.le_refl s.heap.objs.size)
  have I1 := I.laid (a := s.heap.objs.size) (o := .dK []) (h' := s.heap.push { cls := .type "dict", data := .dict #[] }) (t' := s.toks) (fun _ _ q => Heap.get?_push_of_some _ q) (Nat.le_refl _) (dk_empty s.heap I.big)
  refine wpAny_Dict_walk (knd := mixKind X.prog X.w) hall hl h0 h15 (thn (h pins _ σ _ _ I1 (q _ hn)) fun ws s2 ⟨ps, H2, I2, rel, e, kvs, ep, lk, q2⟩ => ?_)
  subst ep
  obtain ⟨rs, c, rk⟩ := carries_of (P := X.prog) (w := X.w) rel
  obtain ⟨z, hd, vs0, r0, dd⟩ := dk_of I2.hok e
  cases r0
  refine ⟨rs, c, dd, fun h' dd' hs => ⟨.ref s.heap.objs.size, _, ?_, rfl, q2⟩⟩
  have hz : (mergeK [] kvs).length ≤ sizeLine := by
    have h1 := length_mergeK kvs []
    rw [List.length_nil] at h1
    rw [sizeLine_eq]; omega
  have he : ∃ q, h'.get? s.heap.objs.size = some q := let ⟨q, _, _, hq, _⟩ := dd'; ⟨q, hq⟩
  exact d_write I2 (by rw [e]; exact True.intro) hs he (dk_new hz hd (rk.merge .nil) dd')


/-! ### methods -/
/-- a method call o.m(e) of a built-in, with one argument: what must be seen of the text -/
structure M1 (X : Cx) (o : Expr) (m : Str) (apos : Pos) (e : Expr) (cpos : Pos) : Prop where
  base : attributeBase o m X.env (eval o X.env) = eval o X.env
  few : ((backTo cpos (starEach [e] X.env)).all (fun x => !x.1) && (backToKw cpos (keywordEach [] X.env)).all (fun x => x.1.isSome)
    && decide (([e] : List Expr).length + ([] : List Keyword).length + (if ([] : List Keyword).isEmpty then 0 else 1) < 30)) = true
  line : (apos.endLine == cpos.line) = true
  trees : backTo cpos (starEach [e] X.env) = [(false, eval e X.env)]
structure M2 (X : Cx) (o : Expr) (m : Str) (apos : Pos) (e f : Expr) (cpos : Pos) : Prop where
  base : attributeBase o m X.env (eval o X.env) = eval o X.env
  few : ((backTo cpos (starEach [e, f] X.env)).all (fun x => !x.1) && (backToKw cpos (keywordEach [] X.env)).all (fun x => x.1.isSome)
    && decide (([e, f] : List Expr).length + ([] : List Keyword).length + (if ([] : List Keyword).isEmpty then 0 else 1) < 30)) = true
  line : (apos.endLine == cpos.line) = true
  trees : backTo cpos (starEach [e, f] X.env) = [(false, eval e X.env), (false, eval f X.env)]

/-- a is a dict, whatever its keys -/
def IsD (H : Hp) (a : Addr) : Prop := (∃ kvs, Rd H a (.dK kvs)) ∨ ∃ kvs, Rd H a (.dT kvs)
theorem isD_at {X : Cx} {pins : List (Addr × Obj)} {σ : St} {H : Hp} {s : Shared} {a : Addr} (I : Inv X pins σ H s) (d : IsD H a) :
    s.TypeIs (.ref a) "dict" ∧ (∀ b, Value.ref a = .ref b → ∃ ob, s.heap.get? b = some ob ∧ ob.dict = none) ∧ (a == sysModules) = false := by
  rcases d with ⟨kvs, e⟩ | ⟨kvs, e⟩
  · obtain ⟨_, hd, vs, _, dd⟩ := dk_rd I.hok e
    refine ⟨dd.typeIs, fun b q => ?_, hd⟩
    cases q
    obtain ⟨ob, _, _, h1, h2, _⟩ := dd
    exact ⟨ob, h1, h2.2.1⟩
  · obtain ⟨_, hd, xs, _, dd⟩ := dt_rd I.hok e
    refine ⟨dd.typeIs, fun b q => ?_, hd⟩
    cases q
    obtain ⟨ob, _, _, h1, h2, _⟩ := dd
    exact ⟨ob, h1, h2.2.1⟩

section
variable {X : Cx} {pins : List (Addr × Obj)} {σ : St} {H : Hp} {s : Shared} {a : Addr} {y d : V} {u r : Value} {o : Option V} {A : Around} {E : Value → Shared → Prop}
/-- d.get(y, x) -/
theorem d_get2 {Q : Value → Shared → Prop} (hu : A.units + 1 < cLine) (I : Inv X pins σ H s) (g : DGet H a y o) (ry : RelV y u) (rd : RelV d r) (h : ∀ w' s', Inv X pins σ H s' → RelV (o.getD d) w' → Q w' s') :
    wpAny (model X.prog X.w) A (call (.builtin "dict.get") [.ref a, u, r]) Q E s := by
  rcases g with ⟨kvs, k, e, ey, l⟩ | ⟨kvs, k, b, e, ey, eb, l⟩
  · subst ey
    obtain ⟨z, hd, vs, rel, dd⟩ := dk_rd I.hok e
    refine call_meetsIn PySem.F.slot_dict_get dd.typeIs PySem.F.entry_dict_get (PySem.F.args_dict_get_3 _ _ _) (meets_dict_get_default (mixKind X.prog X.w) a (kV_is ry) hd r) ⟨_, dd.mapOf, h _ _ (I.tok _) ?_⟩
    rw [l]
    exact (rel.val k).getD rd
  · subst ey
    cases (show u = Value.ref b from ry)
    obtain ⟨z, hd, xs, rel, dd⟩ := dt_rd I.hok e
    refine call_meetsIn PySem.F.slot_dict_get dd.typeIs PySem.F.entry_dict_get (PySem.F.args_dict_get_3 _ _ _) (meetsH_dict_get_default (tupleKind (mixKind X.prog X.w)) a b hd r) ⟨tupleKind_room_in1 hu, k, xs, key_of I.hok eb, dd, h _ _ (I.tok _) ?_⟩
    rw [l]
    exact (rel.val k).getD rd
end

def tDGet1 (td ty : TE) : TE := fun σ H Q => td σ H fun x H1 => ∃ a, x = .ref a ∧ IsD H1 a ∧ ty σ H1 fun y H2 => ∃ o, DGet H2 a y o ∧ Q (o.getD .non) H2
def tDGet2 (td ty tx : TE) : TE := fun σ H Q => td σ H fun x H1 => ∃ a, x = .ref a ∧ IsD H1 a ∧ ty σ H1 fun y H2 => tx σ H2 fun z H3 => ∃ o, DGet H3 a y o ∧ Q (o.getD z) H3
/-- d.pop(k): there; d.pop(k, x): there or not -/
def tDPop1 (td ty : TE) : TE := fun σ H Q => td σ H fun x H1 => ∃ a, x = .ref a ∧ IsD H1 a ∧ ty σ H1 fun y H2 => ∃ kvs k v, H2 a = some (.dK kvs) ∧ y = kV k ∧ valV kvs k = some v ∧ Q v (upd H2 a (.dK (dropK kvs k)))
def tDPop2 (td ty tx : TE) : TE := fun σ H Q => td σ H fun x H1 => ∃ a, x = .ref a ∧ IsD H1 a ∧ ty σ H1 fun y H2 => tx σ H2 fun z H3 => ∃ kvs k, H3 a = some (.dK kvs) ∧ y = kV k ∧
  (∀ v, valV kvs k = some v → Q v (upd H3 a (.dK (dropK kvs k)))) ∧ (valV kvs k = none → Q z H3)
section
variable {X : Cx} {o e f : Expr} {apos cpos : Pos} {td ty tx : TE}
theorem pe_dget2 (hu : X.A.units + 1 < cLine) (ho : PE X o td) (he : PE X e ty) (hf : PE X f tx) (m : M2 X o "get" apos e f cpos) : PE X (.Call (.Attribute o "get" apos) [e, f] [] cpos) (tDGet2 td ty tx) := by
  intro pins s σ H Q I h
  refine wpAny_Call_method m.base m.few m.line PySem.F.plainAttrs_dict PySem.F.slot_dict_get PySem.F.type_dict_get (thn (ho pins s σ H _ I h) fun u s1 ⟨x, H1, I1, rx, a, ex, d, q1⟩ => ?_)
  subst ex
  obtain rfl : u = Value.ref a := rx
  obtain ⟨t1, t2, _⟩ := isD_at I1 d
  refine ⟨t1, t2, ?_⟩
  rw [m.trees]
  refine Calls.callWith_builtin rfl (Calls.evalArgs_plain (Calls.spliced_cons (thn (he pins s1 σ H1 _ I1 q1) fun iv s2 ⟨y, H2, I2, ry, q2⟩ =>
    Calls.spliced_cons (thn (hf pins s2 σ H2 _ I2 q2) fun fv s3 ⟨z, H3, I3, rz, ov, g, q3⟩ => Calls.spliced_nil ?_))))
  exact d_get2 hu I3 g ry rz fun w' s4 I4 rw' => ⟨_, H3, I4, rw', q3⟩
end

/-! ### dict(d): a copy -/
section
variable {X : Cx} {pins : List (Addr × Obj)} {σ : St} {H : Hp} {s : Shared} {a : Addr} {kvs : List (Key × V)} {A : Around} {E : Value → Shared → Prop}
end


section
variable {X : Cx} {pins : List (Addr × Obj)} {σ : St} {H : Hp} {s : Shared} {a : Addr} {y : V} {u : Value} {A : Around} {E : Value → Shared → Prop}
end
end L2

namespace Att
open PySem PySem.W PySem.Calls PyProof.Rows

/-! ### the script -/
theorem ints_of_wellAll {P : Params} {h : Heap} : ∀ (ns : List Int) (vs : List Value), WellAll P h vs (ns.map WData.int) → IntsAre vs ns := by
  intro ns
  induction ns with
  | nil =>
    intro vs w
    rw [List.map_nil] at w
    cases w
    exact .nil
  | cons n ns ih =>
    intro vs w
    rw [List.map_cons] at w
    cases w with
    | cons a b =>
      cases a
      exact .cons _ _ (ih _ b)

theorem script_of {l : OpenLaw} {n : Nat} (hn : l.most = some n) {P : Params} {h : Heap} {args : List WData} {vals : List Value}
    (hpre : l.row.toRowW.claim.pre args = true) (hwl : WellAll P h vals args) :
    ∃ a vs ns, vals = [Value.ref a] ∧ args = [WData.list (ns.map WData.int)] ∧ h.get? a = some { cls := .type "list", data := .seq vs.toArray } ∧ IntsAre vs ns ∧ ns.length ≤ n := by
  have hsh : WShape.hasAll [] args [.list .int] = true := (pre_splitW hpre).1
  have hc : l.pre.holds [] { args := args } = true := (pre_splitW hpre).2
  obtain ⟨d, r, rfl, h1, h2⟩ := hasAllW_cons hsh
  obtain rfl := hasAllW_nil h2
  obtain ⟨xs, rfl, h3⟩ := hasW_list h1
  obtain ⟨ns, rfl⟩ := items_int h3
  have hlen : ns.length ≤ n := by
    unfold OpenLaw.pre at hc
    have h4 : (WTm.not (.lt (.lit (.int (n : Int))) (.len (.arg 0)))).holds [] { args := [.list (ns.map .int)] } = true := by
      have h4 := (holds_andW hc).1
      rw [hn] at h4
      exact h4
    have h5 := condW_of h4 (w_not (w_lt w_lit (w_len_list (w_arg rfl))))
    rw [List.length_map] at h5
    refine Nat.le_of_not_lt fun q => ?_
    have q' : (n : Int) < ((ns.length : Nat) : Int) := by omega
    first
      | (rw [decide_eq_true q'] at h5; exact absurd h5 (by decide))
      | (simp at h5; omega)
  cases hwl with
  | cons w1 w2 =>
    cases w2
    cases w1 with
    | list ho hall => exact ⟨_, _, ns, rfl, rfl, ho, ints_of_wellAll ns _ hall, hlen⟩

theorem post_true (l : OpenLaw) (args : List WData) : l.row.toRowW.claim.post args (.bool true) args = true :=
  postW_of (r := l.row.toRowW) (X := (true == true))
    (show WShape.has [] (.bool true) .bool = true by first | rfl | decide | simp [WShape.has, WShape.arms, WShape.armsAll])
    (show (WTm.eq .res (.lit (.bool true))).value [] { args := args, res := some (.bool true), after := args } = some (.bool (true == true)) from w_eq_bool (w_res rfl) w_lit) rfl

/-! ### the attachment: holds_open's last premise (the goal 'hc' behind k_head) from a wpAny of the law's body -/
/-! ### rules over ANY heap (no ledger) from facts about the written part K: the library's own take a ledger (News) for what they write -/
section
variable {prog : Program} {w : World} {A : Around} {E : Value → Shared → Prop} {s : Shared} {K : Frag}

/-! the whole heap as the ledger: makes every rule that writes through a ledger a rule over any heap -/
def noObjs (h : Heap) : Heap := { h with objs := #[] }
def ledger (h : Heap) (L d : Addr) : List (Addr × Obj) := (List.range h.objs.size).filterMap fun a => if a = L ∨ a = d then none else (h.get? a).map fun o => (a, o)
end
end Att

namespace L2
open PySem PySem.Spec PyProof.Rows

theorem vals_ints : ∀ {vs : List Value} {ns : List Int}, IntsAre vs ns → Vals (ns.map V.int) vs
  | _, _, .nil => .nil
  | _, _, .cons n t h => .cons ⟨t, rfl⟩ (vals_ints h)

/-- nothing is tracked but the script, known to the object (or it is an object of the module) -/
def Only (H : Hp) : Prop := ∀ b, H b = none ∨ ∃ o xs, H b = some (.frz o (.lst xs))

/-- THE HEAD: the law's promise, at the heap behind the top. F, the promise of the law's def, may use that base is part of the heap (so K.In base, base.Ns mainGlobals mg stand in Mod) -/
theorem law_call {P : Program} {w : World} {K : PySem.W.Frag} {mg mb : Str → Option Value} {CX : CXT} {k : Nat} {fa a : Addr} {fd : FuncData} {x : Str} {sp : Sp} {s₁ : Shared} {vs : List Value} {ns : List Int}
    (KX : K.In s₁.heap) (hns : s₁.heap.Ns mainGlobals mg) (hb : s₁.heap.Ns builtinsNs mb) (hbb : ∀ x : Str, x ≠ "__name__" → mb x = bootBuiltins x) (hlim : s₁.heap.NoLimit) (hg : s₁.gens = #[])
    (ha : s₁.heap.get? a = some { cls := .type "list", data := .seq vs.toArray }) (hi : IntsAre vs ns) (hl : ns.length ≤ sizeLine) (hr : Room k callerA)
    (F : ∀ base : Heap, K.In base → base.Ns mainGlobals mg → FnOk P w K mg base CX k fa fd [x] sp) (hbind : ∀ (s : Shared) (u : Value), BindsTo s fd ⟨[u], []⟩ [(x, u)])
    (hsp : ∀ H : Hp, Only H → SqL K H a (ns.map V.int) → sp [.ref a] H (fun v _ => v = .bl true) fun _ _ _ => False)
    (hCX : ∀ H e s', CX [] H s₁ (fun _ _ _ => False) e s' → False) :
    codeAny (model P w) callerA (.call (.ref fa) ⟨[.ref a], []⟩) (fun r s' => r = .ok (.ret (.bool true)) ∧ OldK s₁.heap s'.heap ∧ s'.os = s₁.os ∧ AllBare s'.gens) s₁ := by
  have rv := vals_ints hi
  have lenV := hi.length
  -- from an abstract heap in which nothing but the script may be tracked
  have core : ∀ H : Hp, Only H → SqL K H a (ns.map V.int) → HOk P w H s₁.heap → (∀ b, H b ≠ none → b = a) → (H a ≠ none → K.lookup a = none) →
      codeAny (model P w) callerA (.call (.ref fa) ⟨[.ref a], []⟩) (fun r s' => r = .ok (.ret (.bool true)) ∧ OldK s₁.heap s'.heap ∧ s'.os = s₁.os ∧ AllBare s'.gens) s₁ := by
    intro H hO hS hok hA hK
    have base_of : ∀ {b : Addr} {o : Obj}, s₁.heap.get? b = some o → H b = none → (hidT s₁.heap H).get? b = some o := fun e n => hidT_get e n
    have noA : ∀ {b : Addr} {o : Obj} {es : Array DictEntry} {ep : Nat}, s₁.heap.get? b = some o → o.data = .dict es ep → H b = none := fun {b o es ep} e d => by
      cases q : H b with
      | none => rfl
      | some u =>
        have e' : b = a := hA b (by rw [q]; simp)
        subst e'
        rw [ha] at e; cases e
        have d' : Data.seq vs.toArray _ = Data.dict es ep := d
        cases d'
    have nsK : ∀ {b : Addr} {m : Str → Option Value}, s₁.heap.Ns b m → (hidT s₁.heap H).Ns b m := fun {b m} ⟨o, es, ep, e, d, r⟩ => ⟨o, es, ep, base_of e (noA e d), d, r⟩
    have hKb : K.In (hidT s₁.heap H) := fun b o e => base_of (KX b o e) (by
      cases q : H b with
      | none => rfl
      | some u =>
        have e' : b = a := hA b (by rw [q]; simp)
        subst e'
        rw [hK (by rw [q]; simp)] at e; cases e)
    have hM : Mod K mg (hidT s₁.heap H) := ⟨hKb, nsK hns, ⟨mb, nsK hb, hbb⟩, let ⟨mc, h1, h2⟩ := hlim; ⟨mc, nsK h1, h2⟩⟩
    have e0 : Env0 P w K mg (hidT s₁.heap H) callerA [] s₁ H := ⟨rfl, hM, fun b o e => of_hidT e, Nat.le_of_eq (hidT_size _ _), trivial, fun b hb => absurd (show b ∈ ([] : List Addr) from hb) (by simp), hok, .of_eq hg⟩
    refine codeAny_mono ((F _ hKb (nsK hns)).run callerA [] s₁ H ⟨[.ref a], []⟩ [.ref a] [.ref a] _ _ hr e0 (hbind s₁ (.ref a)) (.cons rfl .nil) (hsp H hO hS)) fun r s' h => ?_
    cases r with
    | error e => exact (hCX H e s' h).elim
    | ok fl =>
      cases fl with
      | next => exact False.elim h
      | brk => exact False.elim h
      | cont => exact False.elim h
      | ret u =>
        obtain ⟨v, H', os, bare, un, hok', r', q⟩ := h
        have q' : v = .bl true := q
        subst q'
        obtain rfl : u = Value.bool true := r'
        refine ⟨rfl, OldK.of_keep fun b o e => ?_, os, bare⟩
        cases q : H b with
        | none => exact un.keep b o e q (by intro z; exact absurd (show b ∈ ([] : List Addr) from z) (by simp)) (by simp)
        | some u =>
          rcases hO b with z | ⟨ob, xs, z⟩
          · rw [q] at z; cases z
          · have z2 := un.frzs b ob _ z
            obtain ⟨e1, _⟩ := hok b _ z
            obtain ⟨e2, _⟩ := hok' b _ z2
            rw [e] at e1; cases e1
            exact e2
  cases hk : K.lookup a with
  | some o =>
    -- the script is one of the module's own objects
    have e := KX a o hk
    rw [ha] at e
    cases e
    refine core (fun _ => none) (fun _ => .inl rfl) (.inr ⟨_, vs.toArray, _, hk, rfl, rfl, rfl, by rw [List.size_toArray, lenV]; exact hl, by simpa using rv⟩) (fun b u z => by have z' : (none : Option HO) = some u := z; cases z') (fun b z => absurd rfl z) fun z => absurd rfl z
  | none =>
    refine core (fun b => if b = a then some (.frz { cls := .type "list", data := .seq vs.toArray } (.lst (ns.map V.int))) else none) (fun b => ?_) (.inl (.inr ⟨{ cls := .type "list", data := .seq vs.toArray }, if_pos rfl⟩)) (fun b u z => ?_) (fun b z => ?_) fun _ => hk
    · by_cases hb : b = a
      · exact .inr ⟨_, _, if_pos hb⟩
      · exact .inl (if_neg hb)
    · by_cases hb : b = a
      · have z' := (if_pos hb).symm.trans z
        cases z'
        subst hb
        exact ⟨ha, by rw [List.length_map]; exact hl, vs, _, rv, ha⟩
      · have z' := (if_neg hb).symm.trans z
        cases z'
    · by_cases hb : b = a
      · exact hb
      · exact absurd (if_neg hb) z
end L2

namespace L2
open PySem PySem.Spec PyProof.Rows

abbrev KOf {K : PySem.W.Frag} {h : Heap} (_ : K.In h) : PySem.W.Frag := K

end L2

/- THE LAST THEOREM (shape; LID, My.* are yours):
   My.Adr: a structure of the addresses that your layer names (classes, functions); My.Txt K t: a structure (Prop) of the equations over K;
   My.txt_mk : {K} {implicit addresses ..} (e1 : nsIn K mainGlobals "law" = some (some (.ref f))) (e2 : K.lookup f = some ⟨oc, od, .func (fnOf "law" "law" params body scope dV kV doc pm an cdv ct), sl⟩) (e3 : codeIn K cdv "law" = true) .. : ∃ t, My.Txt K t

set_option maxRecDepth 100000 in
set_option maxHeartbeats 0 in
theorem PySem.Challenge.cw_LID_holds : PySem.Challenge.rw_LID.Holds := by
  w_on; o_law; k_head; (case hw => w_witness2)
  k_fill
  refine L2.walk_of (l := PySem.Challenge.rw_LID) (n := 63) (k := 40) (x := "script") (CX := fun w => ..) (sp := fun _ => My.sp_law) rfl (by decide) rfl ⟨rfl, by decide, by decide⟩ (fun w h Y => PySem.W.kIn_of Y) ?F ?S ?C
  case F =>
    intro w mg fa h KX G hmg
    have T : ∃ t, My.Txt (L2.KOf KX) t := by
      dsimp only [L2.KOf]                          -- K must stand as «<heap const> w.params» for k_is
      refine' My.txt_mk ?e1 ?e2 ?e3 ..
      (case e1 => PySem.W.k_is)                    -- in the order: a name -> its address -> its object -> its parts
      (case e2 => PySem.W.k_is)
      ..
    obtain ⟨t, T⟩ := T
    have e0 := hmg.symm.trans (PySem.W.mg_of KX G T.law)
    cases e0                                       -- fa is the law's own address
    exact ⟨_, fun s u => .of_eq rfl, fun base kb nb => My.law_fn T kb nb⟩     -- if «.of_eq rfl» comes too early: refine' ⟨_, ?b, fun base kb nb => My.law_fn T kb nb⟩; exact fun s u => .of_eq rfl
  case S => exact fun w H a ns hl hO hS => ..
  case C => exact ..
(the tactic k_is has no namespace: write k_is) -/

/-! SHORT WORDS over the layer: a def of the text, its body, what a loop and a test want. -/
namespace L2
open PySem PySem.Spec PyProof.Rows

/-! ### the text by places -/
/-- the j-th statement of a class's body -/
def inClass (s : Stmt) (j : Nat) : Stmt := match s with
  | .ClassDef _ _ _ body _ _ _ _ _ _ _ => body.getD j (.Pass ⟨0, 0, 0, 0⟩)
  | _ => .Pass ⟨0, 0, 0, 0⟩
def defArgs (s : Stmt) : Arguments := match s with
  | .FunctionDef _ a _ _ _ _ _ _ _ _ => a
  | _ => { posonlyargs := [], args := [], vararg := none, kwonlyargs := [], kw_defaults := [], kwarg := none, defaults := [] }
def defBody (s : Stmt) : List Stmt := match s with
  | .FunctionDef _ _ b _ _ _ _ _ _ _ => b
  | _ => []
def defScope (s : Stmt) : Scope := match s with
  | .FunctionDef _ _ _ _ _ _ sc _ _ _ => sc
  | _ => { kind := .function, names := [], isGenerator := false, isCoroutine := false }

/-! ### no exception leaves a def -/
abbrev CX0 : CXT := fun _ _ _ _ _ _ => False
abbrev E0 : XK := fun _ _ _ => False
theorem pass0 {X : Cx} : Passes CX0 X E0 := fun _ _ _ _ _ _ _ h => h.elim

/-! ### a def (or method) of the text as it stands behind the top -/
structure Fun (K : PySem.W.Frag) (x qual : Str) (st : Stmt) (f : Addr) (fd : FuncData) : Prop where
  ex : ∃ (oc : Value) (od : Option Addr) (kV doc pm : Value) (an : Option Addr) (cdv ct : Value) (osl : Array (Option Value)),
    fd = PySem.W.fnOf x qual (defArgs st) (defBody st) (defScope st) .none kV doc pm an cdv ct ∧ K.lookup f = some ⟨oc, od, .func fd, osl⟩ ∧ PySem.W.codeIn K cdv qual = true
  kp : PySem.W.keepIn K (.ref f) = true
section
variable {P : Program} {w : World} {K : PySem.W.Frag} {mg : Str → Option Value} {base : Heap}
/-- THE RULE for a def: its body as a term of rules, and the reading of that term -/
theorem Fun.ok {x qual : Str} {st : Stmt} {f : Addr} {fd : FuncData} {N ps : List Str} {k : Nat} {sp : Sp} (F : Fun K x qual st f fd) (S : FnScope N ps (defScope st)) (len : ∀ vs H Q E, sp vs H Q E → vs.length = ps.length)
    (hbody : ∀ (cdv : Value) (A : Around) (outer : List Env) (s : Shared) (H : Hp) (vs : List V) (Q : VK) (E : XK), Room k (A.deeper (envOfC qual (defScope st) s.heap.objs.size f cdv)) → sp vs H Q E →
      ∃ t, PSs (cxOf CX0 P w K mg base N qual (defScope st) f cdv A outer s H E).nox (defBody st) t ∧ t { nx := fun _ H' => Q .non H', rt := Q } (start N vs) H) : FnOk P w K mg base CX0 (k + 1) f fd ps sp := by
  obtain ⟨oc, od, kV, doc, pm, an, cdv, ct, osl, rfl, lk, hcd⟩ := F.ex
  refine fn_of lk hcd S len fun A outer s H vs Q E hr hsp => ?_
  obtain ⟨t, h, q⟩ := hbody cdv A outer s H vs Q E hr hsp
  exact ⟨t, h.nox, q⟩
/-- how its arguments bind (no defaults): h is «fun _ _ _ _ _ _ us hl => match us, hl with | [_, _], _ => rfl», one _ a parameter -/
theorem Fun.binds {x qual : Str} {st : Stmt} {f : Addr} {fd : FuncData} {ps : List Str} (F : Fun K x qual st f fd)
    (h : ∀ (kV doc pm : Value) (an : Option Addr) (cdv ct : Value) (us : List Value), us.length = ps.length → bindArgs (PySem.W.fnOf x qual (defArgs st) (defBody st) (defScope st) .none kV doc pm an cdv ct) ⟨us, []⟩ = pure (ps.zip us)) : Binds K fd ps [] := by
  obtain ⟨oc, od, kV, doc, pm, an, cdv, ct, osl, rfl, lk, hcd⟩ := F.ex
  exact .all (h kV doc pm an cdv ct)
theorem fun_mk {x qual : Str} {st : Stmt} {f : Addr} {oc : Value} {od an : Option Addr} {osl : Array (Option Value)} {kV doc pm cdv ct : Value} (l : K.lookup f = some ⟨oc, od, .func (PySem.W.fnOf x qual (defArgs st) (defBody st) (defScope st) .none kV doc pm an cdv ct), osl⟩)
    (c : PySem.W.codeIn K cdv qual = true) (k : PySem.W.keepIn K (.ref f) = true) : Fun K x qual st f (PySem.W.fnOf x qual (defArgs st) (defBody st) (defScope st) .none kV doc pm an cdv ct) := ⟨⟨oc, od, kV, doc, pm, an, cdv, ct, osl, rfl, l, c⟩, k⟩
end
theorem hu_of {A : Around} {k : Nat} (hr : Room k A) : A.units + 1 < cLine := Nat.lt_of_le_of_lt (Nat.add_le_add_left (by decide : 1 ≤ 64) _) hr.units
theorem small1000 {n : Nat} (h : n ≤ 1000) : n < sizeLine := Nat.lt_of_le_of_lt h (by decide)

/-! ### expressions in short: the name that stands in the i-th slot -/
section
variable {X : Cx}
theorem pv (i : Nat) {x : Str} {pos : Pos} (hN : X.N[i]? = some x := by rfl) (hv : Vis X.env.scope x := by first | exact Or.inl rfl | exact Or.inr (Or.inl rfl) | exact Or.inr (Or.inr rfl)) (hd : (x == ("__debug__" : Str)) = false := by decide)
    (hcd : (x == ("__classdict__" : Str)) = false := by decide) : PE X (.Name x pos) (tVar i) := pe_var hN hv hd hcd
end

/-! ### tests -/
theorem iteF {A B : Prop} (h : B) : if false = true then A else B := by
  rw [if_neg Bool.false_ne_true]
  exact h
theorem iteT {A B : Prop} (h : A) : if true = true then A else B := by
  rw [if_pos rfl]
  exact h
theorem ite2 {c A B : Prop} [Decidable c] (h1 : c → A) (h2 : ¬ c → B) : if c then A else B := by
  by_cases h : c
  · rw [if_pos h]
    exact h1 h
  · rw [if_neg h]
    exact h2 h
/-! ### heaps -/
/-- all that was tracked is as it was -/
def Same (H H' : Hp) : Prop := ∀ b o, H b = some o → H' b = some o
theorem Same.refl (H : Hp) : Same H H := fun _ _ h => h
theorem Same.trans {H H1 H2 : Hp} (a : Same H H1) (b : Same H1 H2) : Same H H2 := fun c o h => b c o (a c o h)
theorem Same.seq {K : PySem.W.Frag} {H H' : Hp} {a : Addr} {xs : List V} (e : Same H H') (h : SqL K H a xs) : SqL K H' a xs := by
  rcases h with (h | ⟨o, h⟩) | h
  · exact .inl (.inl (e _ _ h))
  · exact .inl (.inr ⟨o, e _ _ h⟩)
  · exact .inr h

end L2


namespace L2
open PySem PySem.Spec PyProof.Rows
section
variable {X : Cx}
end
section
variable {κ : Type} [DecidableEq κ]
end
end L2

end

section
set_option Elab.async false
set_option linter.all false
set_option maxRecDepth 100000
set_option maxHeartbeats 4000000
namespace L2
open PySem PySem.Spec PyProof.Rows

/-! ### comprehensions -/
theorem loop_go {prog : Program} {w : World} {A : Around} {R : Result → Shared → Prop} {s : Shared} {elt target iter : Expr} {ifs : List Expr} {scope : Scope} {pos : Pos} {it acc : Value} {env : Env} (I : Nat → Shared → Prop)
    (turn : ∀ n s, I n s → wpAny (model prog w) A (pyNext it) (fun r s1 => match r with
      | none => R (.ok .next) s1
      | some v => wpAny (model prog w) A (letOwnedTupleGo target it v) (fun _ s2 => wpAny (model prog w) A (assign target env v) (fun _ s3 =>
          wpAny (model prog w) A (forIn ifs true fun c r => if r = true then do let ok ← isTrue c env (eval c env); pure (ForInStep.yield ok) else pure (ForInStep.yield r)) (fun ok s4 =>
            if ok = true then wpAny (model prog w) A (eval elt env) (fun x s5 =>
              wpAny (model prog w) A (call (.builtin "list.append") [acc, x]) (fun _ s6 => ∃ m, m < n ∧ I m s6) (fun _ _ => False) s5) (fun _ _ => False) s4
            else ∃ m, m < n ∧ I m s4) (fun _ _ => False) s3) (fun _ _ => False) s2) (fun _ _ => False) s1) (fun _ _ => False) s)
    (n : Nat) (h : I n s) :
    codeAny (model prog w) A (.compLoop (.ListComp elt [⟨target, iter, ifs, 0⟩] scope pos) 0 it acc env) R s := by
  refine codeAny_loop rfl I (fun n s hI => ?_) n h
  show wpAny _ A ((compTurn (.ListComp elt [⟨target, iter, ifs, 0⟩] scope pos) 0 it acc env).onRaise (fun x => do noteFrame x env; theTreesLotGoes x)) _ _ s
  refine wpAny_noted ?_
  rw [compTurn_list]
  refine wpAny_bind (wpAny_standAt (wpAny_bind (wpAny_mono (turn n s hI) (fun r s1 h1 => ?_) fun _ _ h' => h'.elim)))
  cases r with
  | none => exact wpAny_pure h1
  | some v =>
    refine wpAny_bind (wpAny_mono h1 (fun _ s2 h2 => ?_) fun _ _ h' => h'.elim)
    refine wpAny_bind (wpAny_mono h2 (fun _ s3 h3 => wpAny_bind (wpAny_mono h3 (fun ok s4 h4 => ?_) fun _ _ h' => h'.elim)) fun _ _ h' => h'.elim)
    cases ok with
    | false => exact wpAny_pure ⟨rfl, h4⟩
    | true =>
      exact wpAny_bind (wpAny_bind (wpAny_mono h4 (fun x s5 h5 => wpAny_bind (wpAny_mono h5 (fun _ s6 h6 => wpAny_pure (wpAny_pure ⟨rfl, h6⟩)) fun _ _ h' => h'.elim)) fun _ _ h' => h'.elim))

/-- the tests of a comprehension -/
def PF (X : Cx) (ifs : List Expr) (t : TT) : Prop :=
  ∀ (pins : List (Addr × Obj)) (s : Shared) (σ : St) (H : Hp) (Q : Bool → Hp → Prop), Inv X pins σ H s → t σ H Q →
    wpAny (model X.prog X.w) X.A (forIn ifs true fun c r => if r = true then do let ok ← isTrue c X.env (eval c X.env); pure (ForInStep.yield ok) else pure (ForInStep.yield r)) (TP X pins σ Q) X.xe s
def tYes : TT := fun _ H Q => Q true H
theorem pf_nil {X : Cx} : PF X [] tYes := fun pins s σ H Q I h => wpAny_tests_nil ⟨H, I, h⟩
theorem pf_one {X : Cx} {c : Expr} {t : TT} (hc : PT X c t) : PF X [c] t := fun pins s σ H Q I h => wpAny_tests_one (hc pins s σ H Q I h)

/-- the inner context -/
def cxC (X : Cx) (Nc : List Str) (scope : Scope) (cl : List (Str × Addr)) (C : Addr) (fp : List Addr) (s2 : Shared) (H2 : Hp) : Cx where
  prog := X.prog
  w := X.w
  K := X.K
  mg := X.mg
  base := X.base
  A := X.A
  N := Nc
  s₀ := s2
  H₀ := H2
  env := compEnvC scope cl C X.env
  outer := X.stack
  stack := X.stack
  ex := fp
  fn := fun _ => false
  calm := X.calm
  pn := []
  xe := fun _ _ => False

def cstart (src : List (Option Nat)) (σ : St) : St := src.map fun o => match o with
  | none => none
  | some i => (σ[i]?).getD none

/-- the facts about the names: each is seen by computation -/
structure CompOk (N : List Str) (osc : Scope) (Nc : List Str) (src : List (Option Nat)) (scope : Scope) : Prop where
  kind : scope.kind = .function
  nocell : ∀ x ∈ scope.names, x.2 ≠ .cell
  nodup : scope.names.Pairwise fun x y => x.1 ≠ y.1
  free : ∀ x ∈ scope.names, x.2 = .free → osc.names.lookup x.1 = some .cell ∨ osc.names.lookup x.1 = some .free
  len : src.length = Nc.length
  src : ∀ (j i : Nat), src[j]? = some (some i) → ∃ x, Nc[j]? = some x ∧ N[i]? = some x ∧ scope.names.lookup x = some .free

theorem lookup_mem {α : Type} {l : List (Str × α)} {x : Str} {k : α} (h : l.lookup x = some k) : (x, k) ∈ l := by
  induction l with
  | nil => cases h
  | cons p r ih =>
    obtain ⟨y, j⟩ := p
    rw [List.lookup_cons] at h
    split at h
    · rename_i hb
      have e := eq_of_beq hb
      cases h; subst e; exact List.mem_cons_self
    · exact List.mem_cons_of_mem _ (ih h)
theorem lookup_of_mem {α : Type} {l : List (Str × α)} (nd : l.Pairwise fun x y => x.1 ≠ y.1) {x : Str} {k : α} (h : (x, k) ∈ l) : l.lookup x = some k := by
  induction l with
  | nil => cases h
  | cons p r ih =>
    obtain ⟨y, j⟩ := p
    rw [List.pairwise_cons] at nd
    rw [List.lookup_cons]
    rcases List.mem_cons.mp h with e | h
    · cases e; simp
    · have ne := nd.1 _ h
      have : (x == y) = false := beq_eq_false_iff_ne.mpr (Ne.symm ne)
      rw [this]; exact ih nd.2 h

/-- the closure of a comprehension -/
theorem closure_ok {X : Cx} (ok : X.Ok) {scope : Scope} : ∀ (names : List (Str × NameKind)) (acc : List (Str × Addr)), (∀ x ∈ names, x.2 = .free → ∃ c, X.env.cells.lookup x.1 = some c) →
    (∀ x c, (x, c) ∈ acc → X.env.cells.lookup x = some c) →
    ∃ cl, (forIn names acc (fun (p : Str × NameKind) (cs : List (Str × Addr)) => (do
      if p.2 == NameKind.free then
        let c ← cellOf X.env p.1
        pure (ForInStep.yield ((p.1, c) :: cs))
      else pure (ForInStep.yield cs) : Sem (ForInStep (List (Str × Addr)))))) = pure cl ∧ (∀ x c, (x, c) ∈ cl → X.env.cells.lookup x = some c) ∧ (∀ x ∈ names, x.2 = .free → ∃ c, (x.1, c) ∈ cl) ∧ (∀ p ∈ acc, p ∈ cl) := by
  intro names
  induction names with
  | nil => intro acc _ ha; exact ⟨acc, (by rw [List.forIn_nil]), ha, (fun _ h => nomatch h), fun _ h => h⟩
  | cons p r ih =>
    intro acc hf ha
    obtain ⟨x, k⟩ := p
    rw [List.forIn_cons]
    by_cases hk : k = .free
    · subst hk
      obtain ⟨c, hc⟩ := hf _ List.mem_cons_self rfl
      obtain ⟨cl, e, h1, h2, h3⟩ := ih ((x, c) :: acc) (fun y hy => hf y (List.mem_cons_of_mem _ hy)) (fun y d hy => by
        rcases List.mem_cons.mp hy with e | hy
        · cases e; exact hc
        · exact ha y d hy)
      have hcell : cellOf X.env x = pure c := by unfold cellOf; rw [show X.env.cells.lookup x = some c from hc]
      refine ⟨cl, ?_, h1, fun y hy hk => ?_, fun q hq => h3 q (List.mem_cons_of_mem _ hq)⟩
      · simp only [beq_self_eq_true, if_true, hcell, pure_bind]; exact e
      · rcases List.mem_cons.mp hy with e | hy
        · cases e; exact ⟨c, h3 _ List.mem_cons_self⟩
        · exact h2 y hy hk
    · obtain ⟨cl, e, h1, h2, h3⟩ := ih acc (fun y hy => hf y (List.mem_cons_of_mem _ hy)) ha
      have hb : (k == NameKind.free) = false := by simpa using hk
      refine ⟨cl, ?_, h1, fun y hy hk' => ?_, h3⟩
      · simp only [hb, Bool.false_eq_true, if_false, pure_bind]; exact e
      · rcases List.mem_cons.mp hy with e | hy
        · cases e; exact absurd hk' hk
        · exact h2 y hy hk'

theorem closureFor_ok {X : Cx} (ok : X.Ok) {scope : Scope} (hf : ∀ x ∈ scope.names, x.2 = .free → X.env.scope.names.lookup x.1 = some .cell ∨ X.env.scope.names.lookup x.1 = some .free) :
    ∃ cl : List (Str × Addr), closureFor scope X.env = pure cl ∧ (∀ (x : Str) (c : Addr), cl.lookup x = some c → X.env.cells.lookup x = some c) ∧ (∀ x ∈ scope.names, x.2 = .free → ∃ c, cl.lookup x.1 = some c) := by
  obtain ⟨cl, e, h1, h2, _⟩ := closure_ok ok (scope := scope) scope.names [] (fun x hx hk => ok.has x.1 (hf x hx hk)) (fun _ _ h => nomatch h)
  refine ⟨cl, ?_, fun x c h => h1 x c (lookup_mem h), fun x hx hk => ?_⟩
  · unfold closureFor
    exact (bind_pure _).trans e
  · obtain ⟨c, hc⟩ := h2 x hx hk
    have : ∀ l : List (Str × Addr), (x.1, c) ∈ l → ∃ d, l.lookup x.1 = some d := by
      intro l
      induction l with
      | nil => intro h; cases h
      | cons p r ih =>
        intro h
        obtain ⟨y, d⟩ := p
        rw [List.lookup_cons]
        cases hb : x.1 == y with
        | true => exact ⟨d, rfl⟩
        | false =>
          rcases List.mem_cons.mp h with e | h
          · cases e; simp at hb
          · exact ih h
    exact this cl hc
end L2

end

section
set_option Elab.async false
set_option linter.all false
set_option maxRecDepth 100000
set_option maxHeartbeats 4000000
namespace L2
open PySem PySem.Spec PyProof.Rows

theorem lookup_relabel {scope : Scope} {env : Env} (x : Str) : (relabel scope env).names.lookup x = (scope.names.lookup x).map fun k => if (k == .free && env.scope.kind == .function && env.kindOf x == some .cell) then .cell else k := by
  unfold relabel
  show List.lookup x (scope.names.map _) = _
  induction scope.names with
  | nil => rfl
  | cons p r ih =>
    obtain ⟨n, k⟩ := p
    rw [List.map_cons]
    cases hb : x == n with
    | true =>
      have e := eq_of_beq hb
      subst e
      show List.lookup x ((if (k == NameKind.free && env.scope.kind == .function && env.kindOf x == some .cell) = true then (x, NameKind.cell) else (x, k)) :: _) = _
      by_cases hc : (k == NameKind.free && env.scope.kind == .function && env.kindOf x == some .cell) = true
      · rw [if_pos hc, List.lookup_cons, List.lookup_cons]
        simp only [beq_self_eq_true, Option.map_some]
        rw [if_pos hc]
      · rw [if_neg hc, List.lookup_cons, List.lookup_cons]
        simp only [beq_self_eq_true, Option.map_some]
        rw [if_neg hc]
    | false =>
      show List.lookup x ((if (k == NameKind.free && env.scope.kind == .function && env.kindOf n == some .cell) = true then (n, NameKind.cell) else (n, k)) :: _) = _
      by_cases hc : (k == NameKind.free && env.scope.kind == .function && env.kindOf n == some .cell) = true
      · rw [if_pos hc, List.lookup_cons, List.lookup_cons, hb]; exact ih
      · rw [if_neg hc, List.lookup_cons, List.lookup_cons, hb]; exact ih

theorem HOk.track {P : Program} {w : World} {H : Hp} {h : Heap} {a : Addr} {o : HO} (x : HOk P w H h) (hn : H a = none) (new : ObjOk P w (upd H a o) h a o) : HOk P w (upd H a o) h := fun b u e => by
  by_cases hb : b = a
  · subst hb; rw [upd_same] at e; cases e; exact new
  · rw [upd_ne hb] at e
    exact (x b u e).stay (fun c v _ q => q) (fun c q => by rw [upd_ne (ne_of_none q hn)]; exact q) fun c xs q => by rw [upd_ne (ne_of_none q hn)]; exact q
theorem Un.track {fs ex : List Addr} {H H' : Hp} {h h' : Heap} {a : Addr} {o : HO} (u : Un fs ex H H' h h') (hp : h.objs.size ≤ a) (hl : ∀ b v, H b = some v → b < h.objs.size) : Un fs ex H (upd H' a o) h h' where
  keep := u.keep
  slot := u.slot
  free := fun b v q n x => by rw [upd_ne (Nat.ne_of_lt (Nat.lt_of_lt_of_le (Heap.lt_size q) hp))]; exact u.free b v q n x
  there := u.there
  tups := fun b xs q => by rw [upd_ne (Nat.ne_of_lt (Nat.lt_of_lt_of_le (hl b _ q) hp))]; exact u.tups b xs q
  frzs := fun b v xs q => by rw [upd_ne (Nat.ne_of_lt (Nat.lt_of_lt_of_le (hl b _ q) hp))]; exact u.frzs b v xs q
  tbls := fun b ps q => by rw [upd_ne (Nat.ne_of_lt (Nat.lt_of_lt_of_le (hl b _ q) hp))]; exact u.tbls b ps q

theorem cxC_ok {X : Cx} {pins : List (Addr × Obj)} {σ : St} {H2 : Hp} {s2 : Shared} {Nc : List Str} {src : List (Option Nat)} {scope : Scope} {cl : List (Str × Addr)} {C : Addr} {fp : List Addr} (I2 : Inv X pins σ H2 s2) (S : CompOk X.N X.env.scope Nc src scope)
    (hcl1 : ∀ (x : Str) (c : Addr), cl.lookup x = some c → X.env.cells.lookup x = some c) (hcl2 : ∀ x ∈ scope.names, x.2 = .free → ∃ c, cl.lookup x.1 = some c) (hC : s2.heap.objs.size ≤ C)
    (hfp : ∀ b ∈ fp, b < s2.heap.objs.size) (f2 : ∀ b ∈ fp, FpOk X pins H2 b) : (cxC X Nc scope cl C fp s2 H2).Ok where
  mod := I2.ok.mod
  kind := S.kind
  glob := I2.ok.glob
  blt := I2.ok.blt
  above := hC
  inj := fun x y c h1 h2 => I2.ok.inj x y c (hcl1 _ _ h1) (hcl1 _ _ h2)
  has := fun x h => by
    have h' : (relabel scope X.env).names.lookup x = some .cell ∨ (relabel scope X.env).names.lookup x = some .free := h
    rw [lookup_relabel] at h'
    cases hk : scope.names.lookup x with
    | none => rw [hk] at h'; rcases h' with h' | h' <;> cases h'
    | some k =>
      have hm := lookup_mem hk
      have hkf : k = .free := by
        rw [hk] at h'
        simp only [Option.map_some] at h'
        cases k with
        | free => rfl
        | cell => exact absurd rfl (S.nocell _ hm)
        | _ => exfalso; revert h'; simp
      subst hkf
      exact hcl2 _ hm rfl
  cab := fun x c h => nomatch h
  hd := I2.ok.hd
  frames := I2.ok.frames
  stk := .inl rfl
  exf := fun b hb => ⟨Nat.ne_of_lt (Nat.lt_of_lt_of_le (hfp b hb) hC), fun x c e => (f2 b hb).2.2.2.2.1 x c (hcl1 _ _ e)⟩
  bs := I2.bs
  bsz := Nat.le_trans I2.ok.bsz I2.sz
  noex := fun b o e hb => by
    rcases (f2 b hb).2.2.2.1 with z | z
    · exact I2.ok.noex b o e z
    · exact absurd (Nat.lt_of_lt_of_le (Heap.lt_size e) (Nat.le_trans I2.ok.bsz z)) (Nat.lt_irrefl _)
  exfs := fun b hb hs => by
    obtain ⟨_, f1, f3, _⟩ := f2 b hb
    rcases List.mem_cons.mp (I2.stkSub b hs) with z | z
    · exact f1 z
    · exact f3 z
  funs := I2.stack
  frf := I2.stkFree

/-- the reading of a comprehension's loop -/
def CompW (J : It) (g : TG) (tf : TT) (te : TE) (Q : List V → Hp → Prop) (σ0 : St) (H1 : Hp) : Prop :=
  ∃ W : Nat → Nat → List V → St → Hp → Prop, (∃ m, W 0 m [] σ0 H1) ∧ ∀ i m ys σc Hc, W i m ys σc Hc →
    (J.stop i Hc ∧ ys.length ≤ sizeLine ∧ Q ys Hc) ∨
    (J.go i Hc ∧ ys.length < sizeLine ∧ ∃ N : List V → St → Hp → Prop, (∀ ys' σ' H', N ys' σ' H' → ∃ m', m' < m ∧ W (i + 1) m' ys' σ' H') ∧
      ∀ x H', J.yld i Hc x H' → g x σc H' fun σ2 H2 => tf σ2 H2 fun b H3 => if b = true then te σ2 H3 fun y H4 => N (ys ++ [y]) σ2 H4 else N ys σ2 H3)
def tComp (src : List (Option Nat)) (wi : TI) (g : TG) (tf : TT) (te : TE) : TE := fun σ H Q => wi σ H fun J H1 =>
  CompW J g tf te (fun ys H2 => ∀ D, H2 D = none → Q (.ref D) (upd H2 D (.lst ys))) (cstart src σ) H1

theorem comp_core {X : Cx} {pins : List (Addr × Obj)} {σ : St} {H2 : Hp} {s2 : Shared} {Nc : List Str} {src : List (Option Nat)} {scope : Scope} {cl : List (Str × Addr)} {fp : List Addr} {elt tg iter : Expr} {ifs : List Expr} {pos : Pos}
    {it : Addr} {tn : Nat → Heap → Prop} {J : It} {g : TG} {tf : TT} {te : TE} {Qf : List V → Hp → Prop} {E : Value → Shared → Prop} {RR : Value → Addr → Result → Shared → Prop}
    (hc : X.calm = true) (I2 : Inv X pins σ H2 s2) (S : CompOk X.N X.env.scope Nc src scope)
    (hcl1 : ∀ (x : Str) (c : Addr), cl.lookup x = some c → X.env.cells.lookup x = some c) (hcl2 : ∀ x ∈ scope.names, x.2 = .free → ∃ c, cl.lookup x.1 = some c)
    (T : Turn X.prog X.w X.K tg J fp it tn) (st2 : tn 0 s2.heap) (f2 : ∀ b ∈ fp, FpOk X pins H2 b)
    (hg : ∀ cl C fp s2 H2, PG (cxC X Nc scope cl C fp s2 H2) tg g) (hf : ∀ cl C fp s2 H2, PF (cxC X Nc scope cl C fp s2 H2) ifs tf) (he : ∀ cl C fp s2 H2, PE (cxC X Nc scope cl C fp s2 H2) elt te)
    (hw : CompW J g tf te Qf (cstart src σ) H2)
    (fin : ∀ (H4 : Hp) (s4 : Shared) (ys : List V) (m : Str → Option Value) (C : Addr), s2.heap.objs.size ≤ C → H4 s2.heap.objs.size = none → Inv X pins σ (upd H4 s2.heap.objs.size (.lst ys)) s4 → s4.heap.Ns C m → upd H4 s2.heap.objs.size (.lst ys) C = none → Qf ys H4 → RR (.ref s2.heap.objs.size) C (.ok .next) s4) :
    wpAny (model X.prog X.w) X.A (newList []) (fun acc s3 => wpAny (model X.prog X.w) X.A (newFunctionEnv scope X.env.globals cl [] X.env.qual none .none (some X.env)) (fun cenv s4 =>
      codeAny (model X.prog X.w) X.A (.compStart (.ListComp elt [⟨tg, iter, ifs, 0⟩] scope pos) 0 (.ref it) acc { cenv with scope := relabel scope X.env }) (RR acc cenv.locals) s4) E s3) E s2 := by
  refine wpAny_newObj_type (wpAny_newFunctionEnv S.nocell (by intro y hy; simp at hy) (fun h1 hns1 hsb1 => ?_) S.kind)
  dsimp only at hns1 hsb1 ⊢
  generalize hH2 : s2.heap.push { cls := .type "list", dict := none, data := .seq ([] : List Value).toArray } = G2 at hns1 hsb1 ⊢
  have hCz : G2.objs.size = s2.heap.objs.size + 1 := by rw [← hH2, Heap.size_push]
  generalize hCe : G2.objs.size = C at hns1 hsb1 hCz ⊢
  generalize hDe : s2.heap.objs.size = D at fin hCz ⊢
  have hDC : D ≠ C := by omega
  have hCle : s2.heap.objs.size ≤ C := by omega
  have hDle : s2.heap.objs.size ≤ D := by omega
  have old : ∀ b o, s2.heap.get? b = some o → h1.get? b = some o := fun b o e => hsb1.extBut b o (Nat.ne_of_lt (Nat.lt_of_lt_of_le (Heap.lt_size e) hCle)) (Heap.get?_push_of_some _ (hH2 ▸ Heap.get?_push_of_some _ e))
  have hacc : h1.get? D = some { cls := .type "list", data := .seq ([] : List Value).toArray 0 } := by
    refine hsb1.extBut _ _ hDC (Heap.get?_push_of_some _ ?_)
    rw [← hH2, ← hDe]
    exact Heap.get?_push_size _ rfl
  have hfp : ∀ b ∈ fp, b < s2.heap.objs.size := fun b hb => by
    obtain ⟨o, e, _⟩ := T.obj 0 _ st2 b hb
    exact Heap.lt_size e
  have ok := cxC_ok (Nc := Nc) (src := src) (scope := scope) (cl := cl) (C := C) (fp := fp) I2 S hcl1 hcl2 hCle hfp f2
  generalize hXC : cxC X Nc scope cl C fp s2 H2 = Y at ok
  have hYN : Y.N = Nc := by rw [← hXC]; rfl
  -- the inner start
  have I0 : Inv (cxC X Nc scope cl C fp s2 H2) [] (cstart src σ) H2 { s2 with heap := h1, toks := s2.toks + ([] : List (Str × Value)).length } := by
    rw [← hXC] at ok
    refine ⟨ok, rfl, I2.bare, Un.kept old, ⟨_, hns1, fun j x v e1 e2 _ => ?_⟩, fun x c e => ?_, I2.hok.fresh hCle, fun x c e => I2.freeC x c (hcl1 _ _ e), (fun p hp => nomatch hp), I2.hok.kept old, ?_⟩
    · -- a name of the closure
      have e2' : (cstart src σ)[j]? = some (some v) := e2
      have e1' : Nc[j]? = some x := e1
      unfold cstart at e2'
      rw [List.getElem?_map] at e2'
      cases hs : src[j]? with
      | none => rw [hs] at e2'; cases e2'
      | some o =>
        rw [hs] at e2'
        cases o with
        | none => cases e2'
        | some i =>
          simp only [Option.map_some, Option.some.injEq] at e2'
          obtain ⟨y, hy1, hy2, hy3⟩ := S.src j i hs
          rw [e1'] at hy1; cases hy1
          have hσ : σ[i]? = some (some v) := by
            cases hq : σ[i]? with
            | none => rw [hq] at e2'; cases e2'
            | some z => rw [hq] at e2'; simp only [Option.getD_some] at e2'; rw [e2']
          have hm := lookup_mem hy3
          have hfr := S.free _ hm rfl
          obtain ⟨m0, hn0, hl0⟩ := I2.loc
          obtain ⟨u, r, l⟩ := hl0 i x v hy2 hσ (Or.inr hfr)
          refine ⟨u, r, .inr ⟨?_, ?_⟩⟩
          · show (relabel scope X.env).names.lookup x = some .cell ∨ (relabel scope X.env).names.lookup x = some .free
            rw [lookup_relabel, hy3]
            simp only [Option.map_some]
            split
            · exact .inl rfl
            · exact .inr rfl
          · rcases l with ⟨k, _⟩ | ⟨_, c, hc1, hc2⟩
            · have k' : X.env.scope.names.lookup x = some .local := k
              rw [k'] at hfr; rcases hfr with z | z <;> cases z
            · obtain ⟨c', hc'⟩ := hcl2 _ hm rfl
              have := hcl1 _ _ hc'
              rw [hc1] at this; cases this
              exact ⟨c, hc', hc2.keeps old⟩
    · obtain ⟨v, z⟩ := I2.cell x c (hcl1 _ _ e)
      exact ⟨v, z.keeps old⟩
    · show (cstart src σ).length = Nc.length
      unfold cstart; rw [List.length_map]; exact S.len
  obtain ⟨W, ⟨m0, w0⟩, turn⟩ := hw
  have loop : codeAny (model X.prog X.w) X.A (.compLoop (.ListComp elt [⟨tg, iter, ifs, 0⟩] scope pos) 0 (.ref it) (.ref D) (compEnvC scope cl C X.env)) (RR (.ref D) C) { s2 with heap := h1, toks := s2.toks + ([] : List (Str × Value)).length } := by
    have fpk : ∀ {H' : Hp} {ob : Obj}, (∀ b ∈ fp, H' b = none) → ∀ b ∈ fp, FpOk (cxC X Nc scope cl C fp s2 H2) [(D, ob)] H' b := fun {H' ob} hn b hb =>
      ⟨hn b hb, (I0.ok.exf b hb).1, I0.ok.exfs b hb, .inl hb, (I0.ok.exf b hb).2, fun p hp => by
        have e : p = (D, ob) := List.mem_singleton.mp hp
        subst e
        exact Nat.ne_of_gt (Nat.lt_of_lt_of_le (hfp b hb) hDle)⟩
    have hDfs : D ∉ frs X.stack := fun hs => by
      rcases List.mem_cons.mp (I2.stkSub D hs) with z | z
      · exact absurd (Nat.lt_of_lt_of_le I2.lt hDle) (by rw [z]; exact Nat.lt_irrefl _)
      · exact I2.nofs hDle z
    refine loop_go (fun n s' => ∃ i ys σ' H' its k, Inv (cxC X Nc scope cl C fp s2 H2) [] σ' H' s' ∧ tn i s'.heap ∧ (∀ b ∈ fp, H' b = none) ∧ H' D = none ∧ s'.heap.get? D = some { cls := .type "list", data := .seq (its : List Value).toArray k } ∧ Vals ys its ∧ W i n ys σ' H') ?_ m0
      ⟨0, [], cstart src σ, H2, [], 0, I0, T.keep _ _ _ st2 fun b hb o e => old b o e, fun b hb => (f2 b hb).1, I2.hok.fresh hDle, hacc, .nil, w0⟩
    rintro n s3 ⟨i, ys, σ3, H3, its, k, I3, st3, fr3, hD3, hO3, vs3, w3⟩
    have I3' : Inv (cxC X Nc scope cl C fp s2 H2) [(D, ({ cls := .type "list", data := .seq its.toArray k } : Obj))] σ3 H3 s3 := I3.pins_of fun p hp => by
      have e := List.mem_singleton.mp hp
      subst e
      exact ⟨hO3, hD3, hDC, hDfs, fun v z => by
        have z' : Data.seq _ _ = Data.cell v := z
        cases z'⟩
    rcases turn i n ys σ3 H3 w3 with ⟨stop, hlen, qn⟩ | ⟨go, hlen, N, hN, step⟩
    · refine thn (T.done (cxC X Nc scope cl C fp s2 H2) rfl rfl rfl hc i _ s3 σ3 H3 _ I3' (fpk fr3) st3 stop) fun r s4 ⟨hr, I4⟩ => ?_
      subst hr
      have hO4 := (I4.pin (D, _) (List.mem_append_right _ (List.mem_singleton.mpr rfl))).1
      obtain ⟨m4, hn4, _⟩ := I4.loc
      have fC : H3 C = none := I4.free
      have uD : upd H3 D (.lst ys) C = none := by rw [upd_ne hDC.symm]; exact fC
      have hl2 : ∀ b v, H2 b = some v → b < s2.heap.objs.size := fun b v e => I2.hok.lt e
      have Iout : Inv X pins σ (upd H3 D (.lst ys)) s4 := by
        refine I2.call' (ch := fp) I4.os (Un.track I4.base hDle hl2) (HOk.track I4.hok hD3 ⟨hlen, its, k, vs3, hO4⟩) I4.bare fun b hb => ?_
        obtain ⟨_, a1, _, a3, a4, a5⟩ := f2 b hb
        exact ⟨a3, a1, a4, a5⟩
      exact fin H3 s4 ys m4 C (by omega) hD3 Iout hn4 uD qn
    · refine thn (T.item (cxC X Nc scope cl C fp s2 H2) rfl rfl rfl hc i _ s3 σ3 H3 _ I3' (fpk fr3) st3 go) fun r s4 ⟨u, hr, h4⟩ => ?_
      subst hr
      refine thn h4 fun _ s5 ⟨x, H5, I5, r5, y5, st5, fr5⟩ => ?_
      have I5' := I5.pinned (fpk fr5) (T.obj _ _ st5)
      refine thn (hg cl C fp s2 H2 _ s5 σ3 H5 x u _ I5' r5 (step x H5 y5)) fun _ s6 ⟨σ6, H6, I6, q6⟩ => ?_
      refine thn (hf cl C fp s2 H2 _ s6 σ6 H6 _ I6 q6) fun ok s7 ⟨H7, I7, q7⟩ => ?_
      have back : ∀ {s8 : Shared} {σ8 : St} {H8 : Hp}, Inv (cxC X Nc scope cl C fp s2 H2) ([(D, ({ cls := .type "list", data := .seq its.toArray k } : Obj))] ++ pinsAt fp s5.heap) σ8 H8 s8 →
          tn (i + 1) s8.heap ∧ (∀ b ∈ fp, H8 b = none) ∧ H8 D = none ∧ s8.heap.get? D = some { cls := .type "list", data := .seq its.toArray k } := fun {s8 σ8 H8} I8 => by
        refine ⟨T.keep _ _ _ st5 fun b hb o e => (I8.pin (b, o) (List.mem_append_right _ (List.mem_append_right _ (mem_pinsAt hb e)))).1, fun b hb => ?_, ?_, ?_⟩
        · obtain ⟨o, e, d⟩ := T.obj _ _ st5 b hb
          exact (I8.pin (b, o) (List.mem_append_right _ (List.mem_append_right _ (mem_pinsAt hb e)))).2.1
        · exact (I8.pin (D, _) (List.mem_append_right _ (List.mem_append_left _ (List.mem_singleton.mpr rfl)))).2.1
        · exact (I8.pin (D, _) (List.mem_append_right _ (List.mem_append_left _ (List.mem_singleton.mpr rfl)))).1
      cases ok with
      | false =>
        obtain ⟨m', hm', w7⟩ := hN _ _ _ q7
        obtain ⟨b1, b2, b3, b4⟩ := back I7
        exact ⟨m', hm', i + 1, ys, σ6, H7, its, k, I7.pins_of (fun p hp => nomatch hp), b1, b2, b3, b4, vs3, w7⟩
      | true =>
        refine thn (he cl C fp s2 H2 _ s7 σ6 H7 _ I7 q7) fun v s8 ⟨y, H8, I8, r8, q8⟩ => ?_
        obtain ⟨m', hm', w8⟩ := hN _ _ _ q8
        obtain ⟨b1, b2, b3, b4⟩ := back I8
        have hl8 := vs3.length
        refine call_meets F.slot_list_append ⟨_, b4, rfl⟩ F.entry_list_append (F.args_list_append_2 _ _) (PySem.list_append D its.toArray k v (by rw [List.size_toArray]; omega)) ⟨b4, ?_⟩
        have I8n : Inv (cxC X Nc scope cl C fp s2 H2) [] σ6 H8 s8 := I8.pins_of fun p hp => nomatch hp
        have kq : ∀ b o, b ≠ D → s8.heap.get? b = some o → (s8.heap.update D (Obj.mapSeq (·.push v))).get? b = some o := fun b o hb e => (Heap.get?_update_other s8.heap _ (Ne.symm hb)).trans e
        have qn := PySem.IsL.update b4 (·.push v)
        have e2 : its.toArray.push v = (its ++ [v]).toArray := by simp
        rw [e2] at qn
        have I9 : Inv (cxC X Nc scope cl C fp s2 H2) [] σ6 H8 { s8 with heap := s8.heap.update D (Obj.mapSeq (·.push v)), toks := s8.toks } :=
          I8n.turned (it := D) kq b3 hDC (.inr hDle) (fun x c e z => by
            obtain ⟨w', z'⟩ := I2.cell x c (hcl1 _ _ e)
            exact absurd (Nat.lt_of_lt_of_le z'.lt hDle) (by rw [z]; exact Nat.lt_irrefl _)) (fun p hp => nomatch hp)
        refine ⟨m', hm', i + 1, ys ++ [y], σ6, H8, its ++ [v], _, I9, T.keep _ _ _ b1 fun b hb o e => kq b o (Nat.ne_of_lt (Nat.lt_of_lt_of_le (hfp b hb) hDle)) e, b2, b3, qn, vs3.append (.cons r8 .nil), w8⟩
  exact codeAny_compStart_list loop (T.self X.A 0 _ _ _ (T.keep _ _ _ st2 fun b hb o e => old b o e) loop)

section
variable {X : Cx} {Nc : List Str} {src : List (Option Nat)} {scope : Scope} {elt tg iter : Expr} {ifs : List Expr} {pos : Pos} {wi : TI} {g : TG} {tf : TT} {te : TE}
/-- [elt for tg in iter if ifs] -/
theorem pe_comp (src : List (Option Nat)) (hc : X.calm = true) (S : CompOk X.N X.env.scope Nc src scope) (hi : PI X tg iter wi)
    (hg : ∀ cl C fp s2 H2, PG (cxC X Nc scope cl C fp s2 H2) tg g) (hf : ∀ cl C fp s2 H2, PF (cxC X Nc scope cl C fp s2 H2) ifs tf) (he : ∀ cl C fp s2 H2, PE (cxC X Nc scope cl C fp s2 H2) elt te)
    (hs : ∀ x, foldedSetIterable iter X.env x = pure x := by intro _; rfl) : PE X (.ListComp elt [⟨tg, iter, ifs, 0⟩] scope pos) (tComp src wi g tf te) := by
  intro pins s σ H Q I h
  obtain ⟨cl, hclos, hcl1, hcl2⟩ := closureFor_ok I.ok (scope := scope) S.free
  rw [eval_ListComp]
  refine wpAny_comprehension_free (use := none) rfl hs hclos S.kind (fun x hx hl => by obtain ⟨n, k⟩ := x; cases hl; exact lookup_of_mem S.nodup hx) (thn (hi pins s σ H _ I h) fun xv s1 h1 => thn h1 fun itv s2 h2 => ?_)
  obtain ⟨it, fp, tn, J, H2, e, I2, T, st2, f2, hw⟩ := h2
  subst e
  refine comp_core (RR := fun acc C => compPost (model X.prog X.w) X.A X.xe none (EP X pins σ Q) acc C) hc I2 S hcl1 hcl2 T st2 f2 hg hf he hw ?_
  intro H4 s4 ys m C hC hD Iout hn hCn q
  refine ⟨m, hn, fun h' sb => ⟨.ref s2.heap.objs.size, _, ?_, rfl, q _ hD⟩⟩
  obtain ⟨f0, f1, f3, f4, f5, f6⟩ := I2.fpOk (H' := upd H4 s2.heap.objs.size (.lst ys)) hC hCn
  exact Iout.turned (t' := s4.toks) (it := C) (fun b o hb e => (sb.2 b hb).trans e) f0 f1 f4 f5 f6
/-- name = [elt for ..], stored ahead of the block's end -/
theorem ps_setComp {i : Nat} {y : Str} {pos' spos : Pos} (src : List (Option Nat)) (hN : X.N.Nodup) (hi' : X.N[i]? = some y) (hy : X.env.scope.names.lookup y = some .local)
    (hc : X.calm = true) (S : CompOk X.N X.env.scope Nc src scope) (hi : PI X tg iter wi)
    (hg : ∀ cl C fp s2 H2, PG (cxC X Nc scope cl C fp s2 H2) tg g) (hf : ∀ cl C fp s2 H2, PF (cxC X Nc scope cl C fp s2 H2) ifs tf) (he : ∀ cl C fp s2 H2, PE (cxC X Nc scope cl C fp s2 H2) elt te)
    (hsw : swapsWith (.ListComp elt [⟨tg, iter, ifs, 0⟩] scope pos) (some (.Name y pos')) spos.line X.env = pure true := by rfl)
    (hs : ∀ x, foldedSetIterable iter X.env x = pure x := by intro _; rfl) : PS X (.Assign [.Name y pos'] (.ListComp elt [⟨tg, iter, ifs, 0⟩] scope pos) spos) (tAsg (tComp src wi g tf te) (gName i)) := by
  intro pins s σ H D I h
  obtain ⟨cl, hclos, hcl1, hcl2⟩ := closureFor_ok I.ok (scope := scope) S.free
  rw [exec_Assign_Name_used _ _ _ _ hsw]
  refine wpAny_bind (wpAny_standAt (wpAny_bind ?_))
  show wpAny _ X.A (do let _ ← comprehension (.ListComp elt [⟨tg, iter, ifs, 0⟩] scope pos) scope X.env _ (newList []) false (eval iter X.env) (some (assign (.Name y pos') X.env))) _ _ s
  refine wpAny_bind (wpAny_mono (wpAny_comprehension_free (use := some (assign (.Name y pos') X.env)) (Q := fun _ s' => SP X pins D .next s') rfl hs hclos S.kind (fun x hx hl => by obtain ⟨n, k⟩ := x; cases hl; exact lookup_of_mem S.nodup hx)
    (thn (hi pins s σ H _ I h) fun xv s1 h1 => thn h1 fun itv s2 h2 => ?_)) (fun _ s' hq => wpAny_pure (wpAny_pure hq)) fun _ _ e => e)
  obtain ⟨it, fp, tn, J, H2, e, I2, T, st2, f2, hw⟩ := h2
  subst e
  refine comp_core (RR := fun acc C => compPost (model X.prog X.w) X.A X.xe (some (assign (.Name y pos') X.env)) (fun _ s' => SP X pins D .next s') acc C) hc I2 S hcl1 hcl2 T st2 f2 hg hf he hw ?_
  intro H4 s4 ys m C hC hD Iout hn hCn q
  show wpAny _ X.A (assign (.Name y pos') X.env (.ref s2.heap.objs.size)) _ _ _
  refine wpAny_assign_Name (store_ok2 (i := i) Iout hN hi' (.inl hy) (v := .ref s2.heap.objs.size) rfl (fun s5 I5 ch => ?_) (.inr hy))
  obtain ⟨f0, f1, f3, f4, f5, f6⟩ := I2.fpOk (H' := upd H4 s2.heap.objs.size (.lst ys)) hC hCn
  obtain ⟨a, sb, ha⟩ := ch
  have hCa : C ≠ a := by
    rcases ha with ha | ha
    · rw [ha]; exact f1
    · exact fun z => f5 _ _ ha z.symm
  refine ⟨m, hn.sameBut sb hCa, fun h' sb' => ⟨_, _, I5.turned (t' := s5.toks) (it := C) (fun b o hb e => (sb'.2 b hb).trans e) f0 f1 f4 f5 f6, q _ hD⟩⟩
end
end L2

end

section
set_option Elab.async false
set_option linter.all false
set_option maxRecDepth 100000
set_option maxHeartbeats 4000000
namespace L2
open PySem PySem.Spec PyProof.Rows

section
variable {X : Cx} {pins : List (Addr × Obj)} {σ : St} {H : Hp} {s : Shared}
/-- several untracked records of ours have turned -/
theorem Inv.turnedL {h' : Heap} {t' : Nat} {ch : List Addr} (I : Inv X pins σ H s) (k : ∀ b o, b ∉ ch → s.heap.get? b = some o → h'.get? b = some o) (hf : ∀ b ∈ ch, FpOk X pins H b) : Inv X pins σ H { s with heap := h', toks := t' } := by
  have nit : ∀ b u, H b = some u → b ∉ ch := fun b u e z => by rw [(hf b z).1] at e; cases e
  refine I.step (g' := s.gens) (d' := s.drawn) (ch := ch) (fun b hb => ?_) (fun b o _ _ hc e _ => k b o hc e) (fun b o _ _ hc e _ => ⟨o.slots, k b o hc e⟩) (fun _ _ _ _ n => n)
    (fun b o hc e => ⟨o, k b o hc e⟩) (fun _ _ e => e) (fun _ _ _ e => e) (fun b ps e => ⟨#[], by rw [e]; simp⟩) (fun m hm => ?_) (fun b u e => ?_) I.bare
  · obtain ⟨_, a1, _, a3, a4, a5⟩ := hf b hb
    exact ⟨a3, a1, a4, a5⟩
  · obtain ⟨o, es, ep, ho, r⟩ := hm
    exact ⟨o, es, ep, k _ o (fun z => (hf _ z).2.1 rfl) ho, r⟩
  · refine (I.hok b u e).stay (fun c v hc q => k c v ?_ q) (fun _ q => q) fun _ _ q => q
    rcases hc with z | z
    · rw [z]; exact nit b u e
    · exact nit c _ z
theorem Un.track' {fs ex : List Addr} {H H' : Hp} {h h' : Heap} {a : Addr} {o : HO} (u : Un fs ex H H' h h') (hp : h.objs.size ≤ a) (hn : H' a = none) : Un fs ex H (upd H' a o) h h' where
  keep := u.keep
  slot := u.slot
  free := fun b v q n x => by rw [upd_ne (Nat.ne_of_lt (Nat.lt_of_lt_of_le (Heap.lt_size q) hp))]; exact u.free b v q n x
  there := u.there
  tups := fun b xs q => by rw [upd_ne (ne_of_none (u.tups b xs q) hn)]; exact u.tups b xs q
  frzs := fun b v xs q => by rw [upd_ne (ne_of_none (u.frzs b v xs q) hn)]; exact u.frzs b v xs q
  tbls := fun b ps q => by
    obtain ⟨m, e⟩ := u.tbls b ps q
    exact ⟨m, by rw [upd_ne (ne_of_none e hn)]; exact e⟩
/-- an untracked object of ours is tracked from here on -/
theorem Inv.track {a : Addr} {o : HO} (I : Inv X pins σ H s) (f : FpOk X pins H a) (hs : X.s₀.heap.objs.size ≤ a) (new : ObjOk X.prog X.w (upd H a o) s.heap a o) : Inv X pins σ (upd H a o) s := by
  obtain ⟨hn, h1, _, _, h4, h5⟩ := f
  refine ⟨I.ok, I.os, I.bare, Un.track' I.base hs hn, I.loc, I.cell, by rw [upd_ne (Ne.symm h1)]; exact I.free, fun x c e => by rw [upd_ne (h4 x c e)]; exact I.freeC x c e, fun p hp => ?_, HOk.track I.hok hn new, I.len⟩
  obtain ⟨a1, a2, a3⟩ := I.pin p hp
  exact ⟨a1, by rw [upd_ne (h5 p hp)]; exact a2, a3⟩
end

/-! ### enumerate of a list -/
def Ite (K : PySem.W.Frag) (a : Addr) : It :=
  ⟨fun i H => ∃ xs x, SqL K H a xs ∧ xs[i]? = some x,
   fun i H v H' => ∃ T x, H T = none ∧ v = .ref T ∧ H' = upd H T (.tup [.int i, x]) ∧ ∀ xs, SqL K H a xs → xs[i]? = some x,
   fun i H => ∃ xs, SqL K H a xs ∧ xs.length ≤ i⟩
theorem tup2_ok {P : Program} {w : World} {H : Hp} {h : Heap} {T : Addr} {x y : V} {u v : Value} (r : RelV x u) (q : RelV y v) (e : h.get? T = some { cls := .type "tuple", data := .seq #[u, v] }) : ObjOk P w H h T (.tup [x, y]) :=
  ⟨by show 2 ≤ sizeLine; decide, [u, v], .cons r (.cons q .nil), ⟨_, e, rfl, _, rfl⟩⟩
def iEnum (K : PySem.W.Frag) (ta : TA) : TI := fun σ H R => ta σ H fun vs H1 => ∃ a, vs = [.ref a] ∧ (∃ xs, SqL K H1 a xs) ∧ R (Ite K a) H1
/-! ### zip of two lists -/
def Itz (K : PySem.W.Frag) (a b : Addr) : It :=
  ⟨fun i H => ∃ xs x ys y, SqL K H a xs ∧ SqL K H b ys ∧ xs[i]? = some x ∧ ys[i]? = some y,
   fun i H v H' => ∃ T x y, H T = none ∧ v = .ref T ∧ H' = upd H T (.tup [x, y]) ∧ (∀ xs, SqL K H a xs → xs[i]? = some x) ∧ ∀ ys, SqL K H b ys → ys[i]? = some y,
   fun i H => ∃ xs ys, SqL K H a xs ∧ SqL K H b ys ∧ (xs.length ≤ i ∨ ys.length ≤ i)⟩
def iZip (K : PySem.W.Frag) (ta : TA) : TI := fun σ H R => ta σ H fun vs H1 => ∃ a b, vs = [.ref a, .ref b] ∧ (∃ xs, SqL K H1 a xs) ∧ (∃ ys, SqL K H1 b ys) ∧ R (Itz K a b) H1
end L2

end

section
set_option Elab.async false
set_option linter.all false
set_option maxRecDepth 100000
set_option maxHeartbeats 4000000
namespace L2
open PySem PySem.Spec PyProof.Rows

/-! ### f(k = v, ..) -/
section
variable {X : Cx} {CX : CXT} {k : Nat} {f : Addr} {fd : FuncData} {ps ks : List Str} {sp : Sp} {E : XK} {x : Str} {p pos : Pos} {kws : List Keyword} {tk : TA} {g : List Value → List Value → List Value} {gV : List V → List V → List V}
end

section
variable {X : Cx}
/-! ### sum, all, isinstance -/
def sumI (xs : List V) : Int := (xs.map fun v => match v with | .int i => i | _ => 0).sum
theorem all_range (bs : List Bool) (tr : Nat → Bool) (h : ∀ i b, bs[i]? = some b → tr i = b) : (List.range bs.length).all tr = bs.all id := by
  induction bs generalizing tr with
  | nil => rfl
  | cons b r ih =>
    rw [List.length_cons, List.range_succ_eq_map, List.all_cons, List.all_map, List.all_cons, h 0 b rfl]
    have := ih (tr ∘ Nat.succ) (fun i c hi => h (i + 1) c (by simpa using hi))
    rw [this]; rfl
theorem call_allL (hc : X.calm = true) : CallR X (.builtin "all") (fun xs H Q => ∃ (a : Addr) (bs : List Bool), xs = [.ref a] ∧ SqL X.K H a (bs.map V.bl) ∧ Q (.bl (bs.all id)) H) := by
  intro pins s σ H xs us Q I r h
  obtain ⟨a, bs, rfl, hq, q⟩ := h
  obtain ⟨u, rfl, ru⟩ := vals1 r
  cases ru
  obtain ⟨its, rv, p, hz⟩ := I.list hq
  have hl := rv.length
  rw [List.length_map] at hl
  refine call_all_walk (wpAny_pyIter_list p.isList ?_)
  have hne : a ≠ s.heap.objs.size := by
    obtain ⟨o, ho, _⟩ := p.isList
    exact Nat.ne_of_lt (Heap.lt_size ho)
  refine ⟨s.heap.objs.size, _, _, _, _, _, fun i => (bs[i]?).getD true, rfl, Walks.list (A := X.A.in1) (I.ok.hd hc) s.heap.objs.size a hne its.toArray, ⟨⟨_, Heap.get?_push_size _ rfl, rfl, rfl⟩, p.isList.push _⟩, ?_, fun h' tk kk => ?_⟩
  · intro i v s' Q' E' hv hq'
    have hv' : its[i]? = some v := by simpa using hv
    cases hn : bs[i]? with
    | none =>
      exfalso
      rw [List.getElem?_eq_none_iff, hl] at hn
      rw [List.getElem?_eq_none hn] at hv'
      cases hv'
    | some b =>
      obtain ⟨u', hu', ru'⟩ := rv.get (i := i) (x := V.bl b) (by simp [hn])
      obtain rfl : u' = Value.bool b := ru'
      rw [hu'] at hv'; cases hv'
      have hq2 : Q' ((bs[i]?).getD true) s' := hq'
      rw [hn] at hq2
      exact wpAny_truthy_bool hq2
  · have e : (List.range its.toArray.size).all (fun i => (bs[i]?).getD true) = bs.all id := by
      rw [show its.toArray.size = bs.length by simp; omega]
      exact all_range bs _ fun i b h => by rw [h]; rfl
    rw [e]
    refine ⟨.bl _, H, I.kept (t' := tk) fun b o e1 => kk b o (fun hb => ?_) (Heap.get?_push_of_some _ e1), rfl, q⟩
    have hb := List.mem_singleton.mp hb
    exact absurd (Heap.lt_size e1) (by rw [hb]; exact Nat.lt_irrefl _)
theorem bt_all : bootBuiltins "all" = some (.builtin "all") := by decide +kernel

/-! ### xs[::-1] -/
def tRev (K : PySem.W.Frag) (te : TE) : TE := fun σ H Q => te σ H fun x H1 => ∃ a xs, x = .ref a ∧ SqL K H1 a xs ∧ ∀ p, H1 p = none → Q (.ref p) (upd H1 p (.lst xs.reverse))
/-! ### list + list, of any list that is read -/
def rCatS (K : PySem.W.Frag) : R2 := fun x y H Q => ∃ a b xs ys, x = .ref a ∧ y = .ref b ∧ SqL K H a xs ∧ SqL K H b ys ∧ xs.length + ys.length ≤ sizeLine ∧ ∀ p, H p = none → Q (.ref p) (upd H p (.lst (xs ++ ys)))
theorem op_catS : OpR X (binaryOp .Add) (rCatS X.K) := by
  intro pins s σ H x y v u Q I rx ry h
  obtain ⟨a, b, xs, ys, rfl, rfl, hq, hq2, hz, q⟩ := h
  cases rx
  cases ry
  obtain ⟨its, rv, p, _⟩ := I.list hq
  obtain ⟨its2, rv2, p2, _⟩ := I.list hq2
  have e1 := rv.length
  have e2 := rv2.length
  obtain ⟨⟨cls, dd, data, sl⟩, ho, hc, n, hd⟩ := id p.isList
  obtain ⟨⟨cls2, dd2, data2, sl2⟩, ho2, hc2, n2, hd2⟩ := id p2.isList
  simp only at hc hd hc2 hd2
  subst hc hd hc2 hd2
  have ea : its.toArray ++ its2.toArray = (its ++ its2).toArray := by simp
  refine concat_meets ⟨_, ho, rfl⟩ ⟨_, ho2, rfl⟩ noFill_list_add seq_list_add PySem.F.slot_list_add PySem.F.entry_list_add (PySem.F.args_list_add_2 _ _) (list_addW a b its.toArray its2.toArray n n2 dd dd2 sl sl2 (by rw [List.size_toArray, List.size_toArray]; omega)) ⟨ho, ho2, ?_⟩
  rw [ea]
  exact ⟨.ref _, _, I.lnew (t' := s.toks) (rv.append rv2) (by rw [List.length_append]; omega), rfl, q _ I.fresh⟩

/-! ### products of any size that is let by -/
theorem op_mulB : OpR X (binaryOp .Mult) (rI IntMulOk fun i j => .int (i * j)) := opI fun _ _ _ _ _ _ _ hc q => mul_int q hc
/-- // by a positive divisor of below 9000 bits -/
theorem op_fdivB : OpR X (binaryOp .FloorDiv) (rI (fun _ j => 0 < j ∧ j.natAbs.log2 < 9000) fun i j => .int (i / j)) := opI fun i j _ _ _ _ _ hc q => by
  have e : i.fdiv j = i / j := Int.fdiv_eq_ediv_of_nonneg _ (Int.le_of_lt hc.1)
  exact floordiv_int (by have := hc.1; omega) (by rw [e]; exact q) (.inl (PyProof.noPylong_of_log2 hc.2))
end

/-! ### the head, with the bound of the script's bits -/
theorem bits_script {ns : List Int} (h : PySem.W.WData.layableAll [PySem.W.WData.list (ns.map PySem.W.WData.int)] = true) : ∀ n ∈ ns, Builtin.Int.intBits n ≤ 2 ^ 20 := by
  intro n hn
  have h1 : (PySem.W.WData.list (ns.map PySem.W.WData.int)).layable = true := by
    have := List.all_eq_true.mp h _ List.mem_cons_self
    exact this
  have hw := (PySem.W.layableW_iff.mp h1).2.2
  have key : ∀ l : List Int, n ∈ l → Builtin.Int.intBits n ≤ PySem.W.WData.weightAll (l.map PySem.W.WData.int) := by
    intro l
    induction l with
    | nil => intro h; cases h
    | cons m r ih =>
      intro hm
      rw [List.map_cons, PySem.W.WData.weightAll]
      rcases List.mem_cons.mp hm with e | hm
      · subst e
        have : Builtin.Int.intBits n ≤ (PySem.W.WData.int n).weight := by
          simp only [PySem.W.WData.weight, Builtin.Int.intBits]
          omega
        omega
      · have := ih hm
        omega
  have h2 := key ns hn
  rw [PySem.W.WData.weight] at hw
  omega
end L2

namespace Att
open PySem PySem.W PyProof.Rows PySem.Calls
theorem attach_callB {l : OpenLaw} {n : Nat} {q : Program} {loose : List Str} {XP : (Str → Option Value) → Heap → Prop} {YP : World → Heap → Prop} {d : DefRec}
    (hn : l.most = some n) (hdf : d.params.defaults = [])
    (call : ∀ (w : World) (s₀ s₁ : Shared) (mg mb : Str → Option Value) (fa : Addr) (o : Obj) (pm cd doc : Value) (a : Addr) (vs : List Value) (ns : List Int),
      Ground q loose [] XP w s₀ mg mb s₁.heap → YP w s₁.heap →
      s₁.heap.get? fa = some o → o.data = .func (docDef d.name d.params d.body d.scope pm cd doc) → s₁.heap.CodeRec cd d.name → mg d.name = some (.ref fa) →
      s₁.heap.get? a = some { cls := .type "list", data := .seq vs.toArray } → IntsAre vs ns → ns.length ≤ n → (∀ m ∈ ns, Builtin.Int.intBits m ≤ 2 ^ 20) → s₁.gens = #[] →
      codeAny (model l.prog w) callerA (.call (.ref fa) ⟨[.ref a], []⟩) (fun r s' => r = .ok (.ret (.bool true)) ∧ OldK s₁.heap s'.heap ∧ s'.os = s₁.os ∧ AllBare s'.gens) s₁) :
    WalkO q loose XP YP l.row.toRowW d [] (fun f vs => PySem.call f vs) := by
  intro w s₀ s₁ mg mb G Y fa o pm cd doc dV kV ho hd hcd hD hmg hg args vals as hpre hlay hrd hwl hlo
  obtain rfl : dV = .none := Dflts.none hD hdf
  obtain rfl : kV = .none := Dflts.noKw hD
  obtain ⟨a, vs, ns, rfl, rfl, hobj, hints, hlen⟩ := script_of hn hpre hwl
  refine enter_call (codeAny_mono (call w s₀ s₁ mg mb fa o pm cd doc a vs ns G Y ho (fd_plain hd) hcd hmg hobj hints hlen (L2.bits_script hlay) hg) fun r s' hq => ?_)
  obtain ⟨rfl, h2, h3, h4⟩ := hq
  exact ⟨.inl ⟨.bool true, .bool true, [], rfl, fun _ => rfl, .bool true, post_true l _, fun _ => ⟨List.Pairwise.nil, fun _ hm => (nomatch hm)⟩⟩, h2, h3, h4⟩
end Att

namespace L2
open PySem PySem.Spec PyProof.Rows
theorem walk_ofB {l : PySem.W.OpenLaw} {n k : Nat} {q : Program} {loose : List Str} {XP : (Str → Option Value) → Heap → Prop} {YP : World → Heap → Prop} {d : DefRec} {K : Params → PySem.W.Frag} {CX : World → CXT} {sp : World → Sp} {x : Str}
    (hn : l.most = some n) (hn2 : n ≤ sizeLine) (hdf : d.params.defaults = []) (hr : Room k callerA)
    (hY : ∀ (w : World) (h : Heap), YP w h → (K w.params).In h)
    (F : ∀ (w : World) (mg : Str → Option Value) (fa : Addr) (h : Heap), (K w.params).In h → h.Ns mainGlobals mg → mg d.name = some (.ref fa) →
      ∃ fd : FuncData, (∀ (s : Shared) (u : Value), BindsTo s fd ⟨[u], []⟩ [(x, u)]) ∧
        ∀ base : Heap, (K w.params).In base → base.Ns mainGlobals mg → FnOk l.prog w (K w.params) mg base (CX w) k fa fd [x] (sp w))
    (hsp : ∀ (w : World) (H : Hp) (a : Addr) (ns : List Int), ns.length ≤ n → (∀ m ∈ ns, Builtin.Int.intBits m ≤ 2 ^ 20) → Only H → SqL (K w.params) H a (ns.map V.int) → sp w [.ref a] H (fun v _ => v = .bl true) fun _ _ _ => False)
    (hCX : ∀ (w : World) (H : Hp) (s : Shared) (e : Value) (s' : Shared), CX w [] H s (fun _ _ _ => False) e s' → False) :
    PySem.W.WalkO q loose XP YP l.row.toRowW d [] (fun f vs => PySem.call f vs) := by
  refine Att.attach_callB hn hdf fun w s₀ s₁ mg mb fa o pm cd doc a vs ns G Y ho hd hcd hmg hobj hints hlen hbits hg => ?_
  have KX := hY w _ Y
  obtain ⟨fd, hb, hF⟩ := F w mg fa _ KX G.T.g hmg
  exact law_call KX G.T.g G.T.b G.T.builtins G.T.nolimit hg hobj hints (Nat.le_trans hlen hn2) hr hF hb (fun H hO hS => hsp w H a ns hlen hbits hO hS) fun H e s' => hCX w H s₁ e s'
end L2

end

section
set_option Elab.async false
set_option linter.all false
set_option maxRecDepth 100000
set_option maxHeartbeats 4000000
namespace L2
open PySem PySem.Spec PyProof.Rows

/-! ### the forms one uses, of comprehensions -/
section
variable {K : PySem.W.Frag} {g : TG} {tf : TT} {te : TE} {Q : List V → Hp → Prop} {σ : St} {H : Hp}
theorem comp_range {lo : Int} {n : Nat} (Pv : Nat → List V → St → Hp → Prop) (hn : n ≤ sizeLine) (h0 : Pv 0 [] σ H) (hz : ∀ i ys σ H, Pv i ys σ H → ys.length ≤ i)
    (hs : ∀ i ys σ H, i < n → Pv i ys σ H → g (.int (lo + i)) σ H fun σ2 H2 => tf σ2 H2 fun b H3 => if b = true then te σ2 H3 fun y H4 => Pv (i + 1) (ys ++ [y]) σ2 H4 else Pv (i + 1) ys σ2 H3)
    (hd : ∀ ys σ H, Pv n ys σ H → Q ys H) : CompW (Itr lo n) g tf te Q σ H := by
  refine ⟨fun i m ys σ H => m = n - i ∧ i ≤ n ∧ Pv i ys σ H, ⟨n, by simp, Nat.zero_le _, h0⟩, ?_⟩
  rintro i m ys σ H ⟨rfl, hi, p⟩
  have hl := hz i ys σ H p
  by_cases hlt : i < n
  · refine .inr ⟨hlt, by omega, Pv (i + 1), fun ys' σ' H' p' => ⟨n - (i + 1), by omega, rfl, hlt, p'⟩, fun x H' y => ?_⟩
    obtain ⟨e, y⟩ := y
    subst e y
    exact hs i ys σ _ hlt p
  · have e : i = n := by omega
    subst e
    exact .inl ⟨Nat.le_refl _, by omega, hd ys σ H p⟩
theorem comp_list {a : Addr} {xs : List V} (Pv : Nat → List V → St → Hp → Prop) (hn : xs.length ≤ sizeLine) (h0 : Pv 0 [] σ H) (hl : ∀ i ys σ H, i ≤ xs.length → Pv i ys σ H → SqL K H a xs ∧ ys.length ≤ i)
    (hs : ∀ i x ys σ H, xs[i]? = some x → Pv i ys σ H → g x σ H fun σ2 H2 => tf σ2 H2 fun b H3 => if b = true then te σ2 H3 fun y H4 => Pv (i + 1) (ys ++ [y]) σ2 H4 else Pv (i + 1) ys σ2 H3)
    (hd : ∀ ys σ H, Pv xs.length ys σ H → Q ys H) : CompW (Itl K a) g tf te Q σ H := by
  refine ⟨fun i m ys σ H => m = xs.length - i ∧ i ≤ xs.length ∧ Pv i ys σ H, ⟨xs.length, by simp, Nat.zero_le _, h0⟩, ?_⟩
  rintro i m ys σ H ⟨rfl, hi, p⟩
  obtain ⟨q, hz⟩ := hl i ys σ H hi p
  by_cases hlt : i < xs.length
  · refine .inr ⟨⟨xs, xs[i], q, by simp [hlt]⟩, by omega, Pv (i + 1), fun ys' σ' H' p' => ⟨xs.length - (i + 1), by omega, rfl, hlt, p'⟩, fun x H' y => ?_⟩
    obtain ⟨e, y⟩ := y
    subst e
    exact hs i x ys σ _ (y xs q) p
  · have e : i = xs.length := by omega
    subst e
    exact .inl ⟨⟨xs, q, Nat.le_refl _⟩, by omega, hd ys σ H p⟩
end
/-- a pair's target -/
theorem g_pair {K : PySem.W.Frag} {i j : Nat} {T : Addr} {x y : V} {σ : St} {H : Hp} {Q : St → Hp → Prop} (h : Q ((σ.set i (some x)).set j (some y)) (upd H T (.tup [x, y]))) :
    gTup K 2 (gCons (gName i) (gCons (gName j) gNil)) (.ref T) σ (upd H T (.tup [x, y])) Q :=
  ⟨T, [x, y], rfl, SqT.of upd_same, rfl, x, [y], rfl, y, [], rfl, rfl, h⟩
end L2

end

section
set_option Elab.async false
set_option linter.all false
set_option maxRecDepth 100000
namespace Cb
open PySem

/-! ### bits -/
def bitsL : Nat → Nat → List Nat
  | _, 0 => []
  | n, m + 1 => (n % 2) :: bitsL (n / 2) m
def num : List Nat → Nat
  | [] => 0
  | b :: r => b + 2 * num r
def Bit (l : List Nat) : Prop := ∀ b ∈ l, b ≤ 1
theorem num_append : ∀ a b, num (a ++ b) = num a + 2 ^ a.length * num b
  | [], b => by simp [num]
  | x :: a, b => by
    simp only [List.cons_append, num, List.length_cons, num_append a b, Nat.pow_succ]
    rw [Nat.mul_add, ← Nat.mul_assoc, Nat.mul_comm 2 (2 ^ a.length)]
    omega
theorem num_lt : ∀ l, Bit l → num l < 2 ^ l.length
  | [], _ => by simp [num]
  | b :: r, h => by
    have h1 := h b List.mem_cons_self
    have h2 := num_lt r fun x hx => h x (List.mem_cons_of_mem _ hx)
    simp only [num, List.length_cons, Nat.pow_succ]
    omega
theorem bitsL_num : ∀ l, Bit l → bitsL (num l) l.length = l
  | [], _ => rfl
  | b :: r, h => by
    have h1 := h b List.mem_cons_self
    have h2 := bitsL_num r fun x hx => h x (List.mem_cons_of_mem _ hx)
    simp only [List.length_cons, bitsL, num]
    rw [show (b + 2 * num r) % 2 = b by omega, show (b + 2 * num r) / 2 = num r by omega, h2]
/-! ### how many ones, the single ones -/
def ones : Nat → Nat
  | 0 => 0
  | n + 1 => (n + 1) % 2 + ones ((n + 1) / 2)
decreasing_by omega
theorem ones_eq (n : Nat) : ones n = n % 2 + ones (n / 2) := by
  cases n with
  | zero => simp [ones]
  | succ n => rw [ones]
def sgl : Nat → List Nat
  | 0 => []
  | n + 1 => if (n + 1) % 2 = 1 then 1 :: (sgl ((n + 1) / 2)).map (2 * ·) else (sgl ((n + 1) / 2)).map (2 * ·)
decreasing_by all_goals omega
theorem sgl_zero : sgl 0 = [] := by simp [sgl]
theorem sgl_odd (n : Nat) : sgl (2 * n + 1) = 1 :: (sgl n).map (2 * ·) := by
  rw [sgl, if_pos (by omega), show (2 * n + 1) / 2 = n by omega]
theorem sgl_even (n : Nat) : sgl (2 * n) = (sgl n).map (2 * ·) := by
  cases n with
  | zero => simp [sgl]
  | succ n =>
    rw [show 2 * (n + 1) = (2 * n + 1) + 1 by omega, sgl, if_neg (by omega), show (2 * n + 1 + 1) / 2 = n + 1 by omega]
theorem sgl_length : ∀ n, (sgl n).length = ones n := by
  intro n
  induction n using Nat.strongRecOn with
  | _ n ih =>
    rcases Nat.mod_two_eq_zero_or_one n with h | h
    · by_cases h0 : n = 0
      · subst h0; simp [sgl, ones]
      · have e : n = 2 * (n / 2) := by omega
        rw [ones_eq, h]
        conv => lhs; rw [e]
        rw [sgl_even, List.length_map, ih _ (by omega)]; omega
    · have e : n = 2 * (n / 2) + 1 := by omega
      rw [ones_eq, h]
      conv => lhs; rw [e]
      rw [sgl_odd, List.length_cons, List.length_map, ih _ (by omega)]; omega
theorem land_even (a b : Nat) : (2 * a) &&& (2 * b) = 2 * (a &&& b) := by
  apply Nat.eq_of_testBit_eq; intro i
  cases i with
  | zero => simp [Nat.testBit_and]
  | succ i =>
    rw [Nat.testBit_and, Nat.testBit_succ, Nat.testBit_succ, Nat.testBit_succ, show (2 * a) / 2 = a by omega, show (2 * b) / 2 = b by omega, show (2 * (a &&& b)) / 2 = (a &&& b) by omega, Nat.testBit_and]
theorem land_odd (a b : Nat) : (2 * a + 1) &&& (2 * b + 1) = 2 * (a &&& b) + 1 := by
  apply Nat.eq_of_testBit_eq; intro i
  cases i with
  | zero => simp [Nat.testBit_and]
  | succ i =>
    rw [Nat.testBit_and, Nat.testBit_succ, Nat.testBit_succ, Nat.testBit_succ, show (2 * a + 1) / 2 = a by omega, show (2 * b + 1) / 2 = b by omega, show (2 * (a &&& b) + 1) / 2 = (a &&& b) by omega, Nat.testBit_and]
theorem land_oe (a b : Nat) : (2 * a + 1) &&& (2 * b) = 2 * (a &&& b) := by
  apply Nat.eq_of_testBit_eq; intro i
  cases i with
  | zero => simp [Nat.testBit_and]
  | succ i =>
    rw [Nat.testBit_and, Nat.testBit_succ, Nat.testBit_succ, Nat.testBit_succ, show (2 * a + 1) / 2 = a by omega, show (2 * b) / 2 = b by omega, show (2 * (a &&& b)) / 2 = (a &&& b) by omega, Nat.testBit_and]
theorem land_eo (a b : Nat) : (2 * a) &&& (2 * b + 1) = 2 * (a &&& b) := by rw [Nat.and_comm, land_oe, Nat.and_comm]
/-- the least single one goes: n & (n - 1) -/
theorem sgl_step : ∀ n, 0 < n → (n &&& (n - 1)) < n ∧ sgl n = (n - (n &&& (n - 1))) :: sgl (n &&& (n - 1)) := by
  intro n
  induction n using Nat.strongRecOn with
  | _ n ih =>
    intro hn
    rcases Nat.mod_two_eq_zero_or_one n with h | h
    · have e : n = 2 * (n / 2) := by omega
      obtain ⟨h1, h2⟩ := ih (n / 2) (by omega) (by omega)
      generalize n / 2 = m at *
      subst e
      have e2 : 2 * m - 1 = 2 * (m - 1) + 1 := by omega
      rw [e2, land_eo]
      refine ⟨by omega, ?_⟩
      rw [sgl_even, sgl_even, h2, List.map_cons]
      congr 1
      omega
    · have e : n = 2 * (n / 2) + 1 := by omega
      generalize n / 2 = m at *
      subst e
      have e2 : 2 * m + 1 - 1 = 2 * m := by omega
      rw [e2, land_oe, Nat.and_self]
      exact ⟨by omega, by rw [sgl_odd, sgl_even]; congr 1; omega⟩
theorem ones_le : ∀ m n, n < 2 ^ m → ones n ≤ m
  | 0, n, h => by simp at h; subst h; simp [ones]
  | m + 1, n, h => by
    have := ones_le m (n / 2) (by rw [Nat.pow_succ] at h; omega)
    rw [ones_eq]; omega
/-! ### the machine's & on numbers from 0 on -/
theorem band (a b : Nat) : Builtin.bitAnd (a : Int) (b : Int) = ((a &&& b : Nat) : Int) := by
  unfold Builtin.bitAnd
  simp
end Cb

end

section
set_option Elab.async false
set_option linter.all false
set_option maxRecDepth 100000
set_option maxHeartbeats 4000000
namespace L2
open PySem PySem.Spec PyProof.Rows

/-! ### the names of a comprehension, by computation -/
def srcOk (N : List Str) (names : List (Str × NameKind)) : List (Option Nat) → List Str → Bool
  | [], [] => true
  | none :: r, _ :: s => srcOk N names r s
  | some i :: r, x :: s => (N[i]? == some x) && (names.lookup x == some .free) && srcOk N names r s
  | _, _ => false
def ndOk : List (Str × NameKind) → Bool
  | [] => true
  | x :: r => (r.all fun y => x.1 != y.1) && ndOk r
def compCheck (N : List Str) (osc : Scope) (Nc : List Str) (src : List (Option Nat)) (scope : Scope) : Bool :=
  scope.kind == .function && (scope.names.all fun x => x.2 != .cell) && ndOk scope.names &&
  (scope.names.all fun x => x.2 != .free || osc.names.lookup x.1 == some .cell || osc.names.lookup x.1 == some .free) && srcOk N scope.names src Nc
theorem srcOk_len {N : List Str} {names : List (Str × NameKind)} : ∀ {src : List (Option Nat)} {Nc : List Str}, srcOk N names src Nc = true → src.length = Nc.length
  | [], [], _ => rfl
  | none :: r, _ :: s, h => by simp only [List.length_cons]; rw [srcOk_len (src := r) (Nc := s) h]
  | some i :: r, x :: s, h => by
    simp only [srcOk, Bool.and_eq_true] at h
    simp only [List.length_cons]; rw [srcOk_len h.2]
  | [], _ :: _, h => by simp [srcOk] at h
  | none :: _, [], h => by simp [srcOk] at h
  | some _ :: _, [], h => by simp [srcOk] at h
theorem srcOk_src {N : List Str} {names : List (Str × NameKind)} : ∀ {src : List (Option Nat)} {Nc : List Str}, srcOk N names src Nc = true → ∀ (j i : Nat), src[j]? = some (some i) → ∃ x, Nc[j]? = some x ∧ N[i]? = some x ∧ names.lookup x = some .free
  | [], [], _, j, i, e => by simp at e
  | none :: r, y :: s, h, 0, i, e => by simp at e
  | none :: r, y :: s, h, j + 1, i, e => by
    have := srcOk_src (src := r) (Nc := s) h j i (by simpa using e)
    simpa using this
  | some k :: r, x :: s, h, 0, i, e => by
    simp only [srcOk, Bool.and_eq_true, beq_iff_eq] at h
    simp only [List.getElem?_cons_zero, Option.some.injEq] at e
    subst e
    exact ⟨x, rfl, h.1.1, h.1.2⟩
  | some k :: r, x :: s, h, j + 1, i, e => by
    simp only [srcOk, Bool.and_eq_true] at h
    have := srcOk_src (src := r) (Nc := s) h.2 j i (by simpa using e)
    simpa using this
  | [], _ :: _, h, _, _, _ => by simp [srcOk] at h
  | none :: _, [], h, _, _, _ => by simp [srcOk] at h
  | some _ :: _, [], h, _, _, _ => by simp [srcOk] at h
theorem ndOk_nd : ∀ {l : List (Str × NameKind)}, ndOk l = true → l.Pairwise fun x y => x.1 ≠ y.1
  | [], _ => .nil
  | x :: r, h => by
    simp only [ndOk, Bool.and_eq_true, List.all_eq_true, bne_iff_ne] at h
    exact .cons h.1 (ndOk_nd h.2)
theorem compOk_of {N : List Str} {osc : Scope} {Nc : List Str} {src : List (Option Nat)} {scope : Scope} (h : compCheck N osc Nc src scope = true) : CompOk N osc Nc src scope := by
  simp only [compCheck, Bool.and_eq_true, beq_iff_eq, List.all_eq_true, bne_iff_ne] at h
  obtain ⟨⟨⟨⟨h1, h2⟩, h3⟩, h4⟩, h5⟩ := h
  refine ⟨h1, h2, ndOk_nd h3, fun x hx hf => ?_, srcOk_len h5, srcOk_src h5⟩
  have := h4 x hx
  simp only [Bool.or_eq_true, bne_iff_ne, beq_iff_eq] at this
  rcases this with (z | z) | z
  · exact absurd hf z
  · exact .inl z
  · exact .inr z

/-! ### what is called, by its name -/
structure Cal (P : Program) (w : World) (K : PySem.W.Frag) (mg : Str → Option Value) (base : Heap) (k : Nat) (x : Str) (ps : List Str) (sp : Sp) : Prop where
  ex : ∃ f fd, FnOk P w K mg base CX0 k f fd ps sp ∧ mg x = some (.ref f) ∧ PySem.W.keepIn K (.ref f) = true ∧ Binds K fd ps []
structure CalK (P : Program) (w : World) (K : PySem.W.Frag) (mg : Str → Option Value) (base : Heap) (k : Nat) (x : Str) (ps ks : List Str) (sp : Sp) (gV : List V → List V → List V) : Prop where
  ex : ∃ f fd g, FnOk P w K mg base CX0 k f fd ps sp ∧ mg x = some (.ref f) ∧ PySem.W.keepIn K (.ref f) = true ∧ KBinds K fd ps ks g gV
section
variable {X : Cx} {k : Nat} {ps ks : List Str} {sp : Sp} {x : Str} {p pos : Pos} {e : Expr} {es : List Expr} {t tk : TA} {kws : List Keyword} {gV : List V → List V → List V}
theorem pe_cal (C : Cal X.prog X.w X.K X.mg X.base k x ps sp) (hr : Room k X.A) (hg : Gl X x) (ha : PA X (e :: es) t) (hdb : (x == ("__debug__" : Str)) = false := by decide)
    (he : starEach (e :: es) X.env = (false, eval e X.env) :: starEach es X.env := by rfl) (hpl : (backTo pos (starEach es X.env)).any (·.1) = false := by rfl) : PE X (.Call (.Name x p) (e :: es) [] pos) (tCall sp [] E0 t) := by
  obtain ⟨f, fd, F, hm, hk, hb⟩ := C.ex
  exact pe_call F hr hg hm hk hb .nil pass0 ha hdb he hpl
end
def kw0 {α : Type} (us zs : List α) : List α := match us with
  | [] => zs
  | _ => []
def sw2 {α : Type} (us zs : List α) : List α := match us, zs with
  | [], [a, b] => [b, a]
  | _, _ => []
end L2

namespace Cb
open PySem L2
/-! ### heaps -/
/-- all that was tracked, but p, is as it was -/
def KeepP (p : Addr) (H H' : Hp) : Prop := ∀ b o, b ≠ p → H b = some o → H' b = some o
theorem KeepP.trans {p : Addr} {H H1 H2 : Hp} (a : KeepP p H H1) (b : KeepP p H1 H2) : KeepP p H H2 := fun c o n h => b c o n (a c o n h)
theorem KeepP.of {p : Addr} {H H' : Hp} (h : Same H H') : KeepP p H H' := fun b o _ e => h b o e
theorem same_new {H : Hp} {p : Addr} {o : HO} (h : H p = none) : Same H (upd H p o) := fun b u e => by rw [upd_ne (ne_of_none e h)]; exact e
/-- the numbers of a list -/
def vN (l : List Nat) : List V := l.map fun (b : Nat) => V.int (b : Int)
theorem vN_length (l : List Nat) : (vN l).length = l.length := List.length_map ..
theorem vN_snoc (l : List Nat) (b : Nat) : vN (l ++ [b]) = vN l ++ [V.int (b : Int)] := by simp [vN]
theorem vN_get {l : List Nat} {i : Nat} {x : V} (h : (vN l)[i]? = some x) : ∃ b, l[i]? = some b ∧ x = V.int (b : Int) := by
  unfold vN at h
  rw [List.getElem?_map] at h
  cases e : l[i]? with
  | none => rw [e] at h; cases h
  | some b => rw [e] at h; exact ⟨b, rfl, (Option.some.inj h).symm⟩
def BIG : Int := 10 ^ 40 + 121
/-- a feed: three numbers, of which the third one is at most n -/
def FeedAt (H : Hp) (p : Addr) (n : Nat) : Prop := ∃ a b c : Int, H p = some (.lst [.int a, .int b, .int c]) ∧ 0 ≤ a ∧ 0 ≤ b ∧ b < BIG ∧ 0 ≤ c ∧ c ≤ n
theorem FeedAt.mono {H : Hp} {p : Addr} {n m : Nat} (h : FeedAt H p n) (hm : n ≤ m) : FeedAt H p m := by
  obtain ⟨a, b, c, e, h1, h2, h3, h4, h5⟩ := h
  exact ⟨a, b, c, e, h1, h2, h3, h4, by omega⟩
theorem FeedAt.same {H H' : Hp} {p : Addr} {n : Nat} (h : FeedAt H p n) (s : Same H H') : FeedAt H' p n := by
  obtain ⟨a, b, c, e, r⟩ := h
  exact ⟨a, b, c, s _ _ e, r⟩
theorem FeedAt.ne {H : Hp} {p q : Addr} {n : Nat} (h : FeedAt H p n) (e : H q = none) : q ≠ p := by
  obtain ⟨a, b, c, e', _⟩ := h
  exact fun z => by rw [z, e'] at e; cases e

/-! ### the promises of the common defs -/
def spPick : Sp := fun vs H Q _ => ∃ (p : Addr) (m : Int) (n : Nat), vs = [.ref p, .int m] ∧ FeedAt H p n ∧ n < 2 ^ 40 ∧ 0 < m ∧ m ≤ 2 ^ 64 ∧
  ∀ (r : Nat) (H' : Hp), (r : Int) < m → FeedAt H' p (n + 1) → (∀ b, b ≠ p → H' b = H b) → Q (.int (r : Int)) H'
def spFeed : Sp := fun vs H Q _ => ∃ c : Int, vs = [.int c] ∧ Builtin.Int.intBits c ≤ 2 ^ 20 ∧ ∀ (p : Addr) (H' : Hp), H p = none → FeedAt H' p 0 → Same H H' → Q (.ref p) H'
def spBits : Sp := fun vs H Q _ => ∃ (n m : Nat), vs = [.int (n : Int), .int (m : Int)] ∧ m ≤ 1000 ∧ ∀ (p : Addr) (H' : Hp), H p = none → H' p = some (.lst (vN (bitsL n m))) → Same H H' → Q (.ref p) H'
def spNum (K : PySem.W.Frag) : Sp := fun vs H Q _ => ∃ (p : Addr) (l : List Nat), vs = [.ref p] ∧ SqL K H p (vN l) ∧ ∀ H', Same H H' → Q (.int (num l : Int)) H'
def spMask : Sp := fun vs H Q _ => ∃ (p : Addr) (m n : Nat), vs = [.ref p, .int (m : Int)] ∧ FeedAt H p n ∧ n + 1000 < 2 ^ 40 ∧ 1 ≤ m ∧ m ≤ 64 ∧
  ∀ (v : Nat) (H' : Hp), v < 2 ^ m → FeedAt H' p (n + 1000) → KeepP p H H' → Q (.int (v : Int)) H'
def spWhole : Sp := fun vs H Q _ => ∃ a b : Int, vs = [.int a, .int b] ∧ Q (.bl (decide (a = b))) H
/-- _law_right's: a feed of few draws -/
def spRight : Sp := fun vs H Q _ => ∃ p : Addr, vs = [.ref p] ∧ FeedAt H p 0 ∧ ∀ H', KeepP p H H' → Q (.bl true) H'
def spLaw (K : PySem.W.Frag) : Sp := fun vs H Q _ => ∃ (a : Addr) (ns : List Int), vs = [.ref a] ∧ SqL K H a (ns.map V.int) ∧ ns.length ≤ 63 ∧ (∀ m ∈ ns, Builtin.Int.intBits m ≤ 2 ^ 20) ∧ ∀ H', Q (.bl true) H'
def spSingles : Sp := fun vs H Q _ => ∃ n : Nat, vs = [.int (n : Int)] ∧ n < 2 ^ 64 ∧ ∀ (p : Addr) (H' : Hp), H p = none → H' p = some (.lst (vN (sgl n))) → Same H H' → Q (.ref p) H'
def spOnes : Sp := fun vs H Q _ => ∃ n : Nat, vs = [.int (n : Int)] ∧ n < 2 ^ 64 ∧ ∀ H', Same H H' → Q (.int (ones n : Int)) H'
end Cb

end

section
set_option Elab.async false
set_option linter.all false
set_option maxRecDepth 100000
set_option maxHeartbeats 4000000
namespace L2
open PySem PySem.Spec PyProof.Rows
/-! ### the rules that speak of the written part, with it named (inside a comprehension) -/
section
variable {X : Cx} {K : PySem.W.Frag}
theorem pg_tupE (n : Nat) (hK : X.K = K) {es : List Expr} {k : Nat} {t : TGs} {pos : Pos} (hc : X.calm = true) (h : PGs X es t)
    (hn : (assignEach es X.env).length = n := by rfl) (hst : (assignEach es X.env).findIdx? (·.1) = none := by rfl) : PG X (.Tuple es k pos) (gTup K n t) := by
  subst hK; exact pg_tup hc h hn hst
theorem ix_listE (hK : X.K = K) : IxR X (rIxL K) := by subst hK; exact ix_list
theorem ix_tupE (hK : X.K = K) : IxR X (rIxT K) := by subst hK; exact ix_tup
theorem op_catSE (hK : X.K = K) : OpR X (binaryOp .Add) (rCatS K) := by subst hK; exact op_catS
theorem call_allE (hK : X.K = K) (hc : X.calm = true) : CallR X (.builtin "all") (fun xs H Q => ∃ (a : Addr) (bs : List Bool), xs = [.ref a] ∧ SqL K H a (bs.map V.bl) ∧ Q (.bl (bs.all id)) H) := by subst hK; exact call_allL hc
end
end L2

end

section
set_option Elab.async false
set_option linter.all false
set_option maxRecDepth 100000
set_option maxHeartbeats 4000000
namespace L2
open PySem PySem.Spec PyProof.Rows
/-! ### zip of three lists -/
abbrev Trip (h : Heap) (T : Addr) (a b c : Value) : Prop := h.get? T = some { cls := .type "tuple", data := .seq #[a, b, c] }
structure Far3 (z TO i1 i2 i3 : Addr) : Prop where
  oz : TO ≠ z
  az : i1 ≠ z
  bz : i2 ≠ z
  cz : i3 ≠ z
  oa : TO ≠ i1
  ob : TO ≠ i2
  oc : TO ≠ i3
  ab : i1 ≠ i2
  ac : i1 ≠ i3
  bc : i2 ≠ i3
/-- a list is none of the zip's own objects -/
structure FarL (z TO i1 i2 i3 l : Addr) : Prop where
  z : l ≠ z
  o : l ≠ TO
  a : l ≠ i1
  b : l ≠ i2
  c : l ≠ i3
section
variable {prog : Program} {w : World} {A : Around} {E : Value → Shared → Prop} {s : Shared}
end
abbrev zA (h : Heap) (l : Addr) : Heap := h.push { cls := .type "list_iterator", data := .fields #[.ref l, .int 0 0] }
abbrev zB (h : Heap) (l1 l2 l3 : Addr) : Heap := (zA (zA (zA h l1) l2) l3).push { cls := .type "tuple", data := .seq #[.ref h.objs.size, .ref (zA h l1).objs.size, .ref (zA (zA h l1) l2).objs.size] }
abbrev zC (h : Heap) (l1 l2 l3 : Addr) : Heap := (zB h l1 l2 l3).push { cls := .type "tuple", data := .seq #[.none, .none, .none] }
abbrev zD (h : Heap) (l1 l2 l3 : Addr) : Heap := (zC h l1 l2 l3).push { cls := .type "zip", data := .fields #[.none, .bool false, .bool false, .ref (zA (zA (zA h l1) l2) l3).objs.size, .ref (zB h l1 l2 l3).objs.size] }
end L2

end

section
set_option Elab.async false
set_option linter.all false
set_option maxRecDepth 100000
set_option maxHeartbeats 4000000
namespace L2
open PySem PySem.Spec PyProof.Rows
def Itz3 (K : PySem.W.Frag) (a b c : Addr) : It :=
  ⟨fun i H => ∃ xs x ys y us u, SqL K H a xs ∧ SqL K H b ys ∧ SqL K H c us ∧ xs[i]? = some x ∧ ys[i]? = some y ∧ us[i]? = some u,
   fun i H v H' => ∃ T x y u, H T = none ∧ v = .ref T ∧ H' = upd H T (.tup [x, y, u]) ∧ (∀ xs, SqL K H a xs → xs[i]? = some x) ∧ (∀ ys, SqL K H b ys → ys[i]? = some y) ∧ ∀ us, SqL K H c us → us[i]? = some u,
   fun i H => ∃ xs, SqL K H a xs ∧ xs.length ≤ i⟩
def iZip3 (K : PySem.W.Frag) (ta : TA) : TI := fun σ H R => ta σ H fun vs H1 => ∃ a b c, vs = [.ref a, .ref b, .ref c] ∧ (∃ xs, SqL K H1 a xs) ∧ (∃ ys, SqL K H1 b ys) ∧ (∃ us, SqL K H1 c us) ∧ R (Itz3 K a b c) H1
end L2

end

section
set_option Elab.async false
set_option linter.all false
set_option maxRecDepth 100000
set_option maxHeartbeats 4000000
namespace L2
open PySem PySem.Spec PyProof.Rows Builtin

/-! ### a def with defaults -/
structure FunD (K : PySem.W.Frag) (x qual : Str) (st : Stmt) (dV : Value) (f : Addr) (fd : FuncData) : Prop where
  ex : ∃ (oc : Value) (od : Option Addr) (kV doc pm : Value) (an : Option Addr) (cdv ct : Value) (osl : Array (Option Value)),
    fd = PySem.W.fnOf x qual (defArgs st) (defBody st) (defScope st) dV kV doc pm an cdv ct ∧ K.lookup f = some ⟨oc, od, .func fd, osl⟩ ∧ PySem.W.codeIn K cdv qual = true
  kp : PySem.W.keepIn K (.ref f) = true
section
variable {P : Program} {w : World} {K : PySem.W.Frag} {mg : Str → Option Value} {base : Heap}
end
/-- keywords behind what stands by place, then the defaults -/
def appD {α : Type} (ds : List α) (us zs : List α) : List α := us ++ (zs ++ ds)
def swS {α : Type} (us zs : List α) : List α := match zs with
  | [a, b] => us ++ [b, a]
  | _ => []
/-! ### methods, whose class the reading tells -/
structure Mth (P : Program) (w : World) (K : PySem.W.Frag) (mg : Str → Option Value) (base : Heap) (k : Nat) (C : Addr) (m : Str) (ks : List Str) (gV : List V → List V → List V) (sp : Sp) : Prop where
  cls : Cls K C
  ex : ∃ f fd ps g, Meth K C m f ∧ FnOk P w K mg base CX0 k f fd ps sp ∧ KBinds K fd ps ks g gV
/-- o.m(.., k = v, ..) -/
def tMth (P : Program) (w : World) (K : PySem.W.Frag) (mg : Str → Option Value) (base : Heap) (k : Nat) (m : Str) (ks : List Str) (ta : TE) (t tk : TA) : TE := fun σ H Q => ta σ H fun x H1 => ∃ a C dx fs gV sp, x = .ref a ∧ H1 a = some (.ins C dx fs) ∧ Mth P w K mg base k C m ks gV sp ∧ fs.lookup m = none ∧
  t σ H1 fun vs H2 => tk σ H2 fun zs H3 => sp (gV (x :: vs) zs) H3 Q E0
section
variable {X : Cx} {k : Nat} {C : Addr} {ks : List Str} {x m : Str} {p pos apos : Pos} {e o : Expr} {es : List Expr} {kws : List Keyword} {ta : TE} {t tk : TA}
end

/-! ### len of an own object -/
def tLenO (P : Program) (w : World) (K : PySem.W.Frag) (mg : Str → Option Value) (base : Heap) (k : Nat) (ta : TE) : TE := fun σ H Q => ta σ H fun x H1 => ∃ a C dx fs gV sp, x = .ref a ∧ H1 a = some (.ins C dx fs) ∧ Mth P w K mg base k C "__len__" [] gV sp ∧
  sp (gV [x] []) H1 (fun v H2 => ∃ n : Int, v = .int n ∧ 0 ≤ n ∧ n < 2 ^ 63 ∧ Q (.int n) H2) E0
section
variable {X : Cx} {e : Expr} {p pos : Pos} {ta : TE}
def lenQ (X : Cx) (k : Nat) (Q : VK) (vs : List V) (H1 : Hp) : Prop := match vs with
  | [x] => ∃ a C dx fs gV sp, x = .ref a ∧ H1 a = some (.ins C dx fs) ∧ Mth X.prog X.w X.K X.mg X.base k C "__len__" [] gV sp ∧ sp (gV [x] []) H1 (fun v H2 => ∃ n : Int, v = .int n ∧ 0 ≤ n ∧ n < 2 ^ 63 ∧ Q (.int n) H2) E0
  | _ => False
/-- what a __len__ told -/
def LenIs (Q : Value → Shared → Prop) : Value → Shared → Prop
  | .int n _, s' => 0 ≤ n ∧ n < 2 ^ 63 ∧ Q (.int n s'.toks) { s' with toks := s'.toks + 1 }
  | _, _ => False
end

/-! ### C(..), its arguments by place, by name, or left out -/
structure Mak (P : Program) (w : World) (K : PySem.W.Frag) (mg : Str → Option Value) (base : Heap) (k : Nat) (x : Str) (C : Addr) (ks : List Str) (gV : List V → List V → List V) (sp : Sp) : Prop where
  at_ : mg x = some (.ref C)
  ex : ∃ f fd ps g, Mk K C f ∧ FnOk P w K mg base CX0 k f fd ps sp ∧ KBinds K fd ps ks g gV
def tMak (C : Addr) (gV : List V → List V → List V) (sp : Sp) (t tk : TA) : TE := fun σ H Q => t σ H fun vs H1 => tk σ H1 fun zs H2 => ∀ x dx, H2 x = none → H2 dx = none → dx ≠ x →
  sp (gV (.ref x :: vs) zs) (upd (upd H2 dx (.own x)) x (.ins C dx [])) (fun v H3 => v = .non ∧ Q (.ref x) H3) E0
section
variable {X : Cx} {k : Nat} {C : Addr} {ks : List Str} {gV : List V → List V → List V} {sp : Sp} {x : Str} {p pos : Pos} {e : Expr} {es : List Expr} {kws : List Keyword} {t tk : TA}
end

/-! ### C.m(..), the class's own def -/
structure Clm (P : Program) (w : World) (K : PySem.W.Frag) (mg : Str → Option Value) (base : Heap) (k : Nat) (x m : Str) (sp : Sp) : Prop where
  ex : ∃ C f fd ps mc, mg x = some (.ref C) ∧ PySem.W.specialIn K (.ref C) "__getattribute__" = some (some (.builtin "type.__getattribute__")) ∧ PySem.W.readsIn K C mc = true ∧ PySem.W.findCls K (.ref C) mc m = some (.val (.ref f)) ∧
    PySem.W.keepIn K (.ref f) = true ∧ FnOk P w K mg base CX0 k f fd ps sp ∧ Binds K fd ps []
section
variable {X : Cx} {k : Nat} {sp : Sp} {x m : Str} {p pos apos : Pos} {e : Expr} {es : List Expr} {t : TA}
end
end L2

end

section
set_option Elab.async false
set_option linter.all false
set_option maxRecDepth 100000
set_option maxHeartbeats 4000000
namespace L2
open PySem PySem.Spec PyProof.Rows
/-! ### zip of two lists or two tuples -/
def itC (t : Bool) : String := if t then "tuple_iterator" else "list_iterator"
def sqC (t : Bool) : String := if t then "tuple" else "list"
def IsIt (t : Bool) (h : Heap) (a l : Addr) (i : Nat) : Prop := ∃ o, h.get? a = some o ∧ o.cls = .type (itC t) ∧ o.data = .fields #[.ref l, .int i 0]
def IsSq (t : Bool) (h : Heap) (a : Addr) (xs : Array Value) : Prop := ∃ o, h.get? a = some o ∧ o.cls = .type (sqC t) ∧ ∃ n, o.data = .seq xs n
theorem IsIt.at {t : Bool} {h h' : Heap} {a l : Addr} {i : Nat} (x : IsIt t h a l i) (e : ∀ o, h.get? a = some o → h'.get? a = some o) : IsIt t h' a l i := let ⟨o, ho, r⟩ := x; ⟨o, e _ ho, r⟩
theorem IsSq.at {t : Bool} {h h' : Heap} {a : Addr} {xs : Array Value} (x : IsSq t h a xs) (e : ∀ o, h.get? a = some o → h'.get? a = some o) : IsSq t h' a xs := let ⟨o, ho, r⟩ := x; ⟨o, e _ ho, r⟩
section
variable {prog : Program} {w : World} {A : Around} {E : Value → Shared → Prop} {s : Shared}
theorem nx_item {t : Bool} {it l : Addr} {i : Nat} {xs : Array Value} {x : Value} {Q : Value → Shared → Prop} (hi : IsIt t s.heap it l i) (hl : IsSq t s.heap l xs) (hx : xs[i]? = some x)
    (q : ∀ h', IsIt t h' it l (i + 1) → Heap.SameBut it s.heap h' → Q x { s with heap := h' }) : wpAny (model prog w) A (Builtin.SmallTypes.nextOf (.ref it)) Q E s := by
  cases t with
  | false => exact wpAny_nextOf_list_item hi hl hx q
  | true =>
    have ht : s.TypeIs (.ref it) "tuple_iterator" := let ⟨o, ho, hc, _⟩ := hi; ⟨o, ho, hc⟩
    obtain ⟨o, ho, hc, hd⟩ := id hi; obtain ⟨ol, hol, _, nl, hdl⟩ := hl
    delta Builtin.SmallTypes.nextOf
    refine wpAny_bind (wpAny_callSpecial?_slot (name := Str.ofString "__next__") ht F.slot_tuple_iterator_next (wpAny_call_entry F.slot_tuple_iterator_next ht F.entry_tuple_iterator_next ?_ (F.args_tuple_iterator_next_1 _)))
    show wpAny _ _ (field (.ref it) 0 >>= _) _ _ s; refine wpAny_bind (wpAny_field ho hd (x := .ref l) rfl ?_)
    show wpAny _ _ (if (Value.ref l == Value.none) = true then _ else _) _ _ s; rw [if_neg (show ¬ ((Value.ref l == Value.none) = true) from Bool.false_ne_true)]
    show wpAny _ _ (field (.ref it) 1 >>= _) _ _ s; refine wpAny_bind (wpAny_field ho hd (x := .int i 0) rfl ?_)
    show wpAny _ _ (seqItems? (.ref l) >>= _) _ _ s; refine wpAny_bind (wpAny_seqItems hol hdl ?_); simp only [Int.toNat_natCast, hx]
    refine wpAny_bind (wpAny_setField ho hd (by simp) (wpAny_pure ⟨x, rfl, wpAny_pure (q _ ⟨_, Heap.get?_update_self _ ho (Obj.isFreed_of_fields (Obj.data_mapFields hd _)), (Obj.cls_mapFields ..).trans hc, by rw [Obj.data_mapFields hd]; simp [rawInt]⟩ (Heap.SameBut.update ..))⟩))
theorem nx_end {t : Bool} {it l : Addr} {i : Nat} {xs : Array Value} {Q : Value → Shared → Prop} (hh : A.handled = none) (hi : IsIt t s.heap it l i) (hl : IsSq t s.heap l xs) (hx : xs[i]? = none)
    (q : ∀ h' e, Heap.ExtBut it s.heap h' → (∃ o, h'.get? e = some o ∧ o.cls = .type "StopIteration") → E (.ref e) { s with heap := h' }) : wpAny (model prog w) A (Builtin.SmallTypes.nextOf (.ref it)) Q E s := by
  cases t with
  | false => exact wpAny_nextOf_list_end hh hi hl hx q
  | true =>
    have ht : s.TypeIs (.ref it) "tuple_iterator" := let ⟨o, ho, hc, _⟩ := hi; ⟨o, ho, hc⟩
    obtain ⟨o, ho, hc, hd⟩ := id hi; obtain ⟨ol, hol, _, nl, hdl⟩ := hl
    delta Builtin.SmallTypes.nextOf
    refine wpAny_bind (wpAny_callSpecial?_slot (name := Str.ofString "__next__") ht F.slot_tuple_iterator_next (wpAny_call_entry F.slot_tuple_iterator_next ht F.entry_tuple_iterator_next ?_ (F.args_tuple_iterator_next_1 _)))
    show wpAny _ _ (field (.ref it) 0 >>= _) _ _ s; refine wpAny_bind (wpAny_field ho hd (x := .ref l) rfl ?_)
    show wpAny _ _ (if (Value.ref l == Value.none) = true then _ else _) _ _ s; rw [if_neg (show ¬ ((Value.ref l == Value.none) = true) from Bool.false_ne_true)]
    show wpAny _ _ (field (.ref it) 1 >>= _) _ _ s; refine wpAny_bind (wpAny_field ho hd (x := .int i 0) rfl ?_)
    show wpAny _ _ (seqItems? (.ref l) >>= _) _ _ s; refine wpAny_bind (wpAny_seqItems hol hdl ?_); simp only [Int.toNat_natCast, hx]
    refine wpAny_bind (wpAny_rule (wpAny_bind (wpAny_setField ho hd (by simp) ?_))); show wpAny _ _ (newExc (.type "StopIteration") [] >>= _) _ _ _
    refine wpAny_bind ?_; simp only [newExc, newTuple]; refine wpAny_bind (wpAny_newObj_type ?_ (by size_fits))
    refine wpAny_bind (m := firstArgMember _ _) (wpAny_of_eq (a := Value.none) (by first | rfl | (simp only [firstArgMember]; rfl)) ?_); refine wpAny_newObj_type ?_ (by size_fits)
    simp only [raiseNew]; refine wpAny_bind (wpAny_handled ?_); rw [show A.in1.handled = none from hh]; refine wpAny_bind (wpAny_pure (wpAny_throw ?_))
    exact q _ _ (((Heap.SameBut.update ..).extBut.push _).push _) ⟨_, Heap.get?_push_size _ rfl, rfl⟩
structure Far2 (z TO i1 i2 : Addr) : Prop where
  oz : TO ≠ z
  az : i1 ≠ z
  bz : i2 ≠ z
  oa : TO ≠ i1
  ob : TO ≠ i2
  ab : i1 ≠ i2
structure FarM (z TO i1 i2 l : Addr) : Prop where
  z : l ≠ z
  o : l ≠ TO
  a : l ≠ i1
  b : l ≠ i2
end
abbrev yA (t : Bool) (h : Heap) (l : Addr) : Heap := h.push { cls := .type (itC t), data := .fields #[.ref l, .int 0 0] }
abbrev yB (t : Bool) (h : Heap) (l1 l2 : Addr) : Heap := (yA t (yA t h l1) l2).push { cls := .type "tuple", data := .seq #[.ref h.objs.size, .ref (yA t h l1).objs.size] }
abbrev yC (t : Bool) (h : Heap) (l1 l2 : Addr) : Heap := (yB t h l1 l2).push { cls := .type "tuple", data := .seq #[.none, .none] }
abbrev yD (t : Bool) (h : Heap) (l1 l2 : Addr) : Heap := (yC t h l1 l2).push { cls := .type "zip", data := .fields #[.none, .bool false, .bool false, .ref (yA t (yA t h l1) l2).objs.size, .ref (yB t h l1 l2).objs.size] }
end L2

end

section
set_option Elab.async false
set_option linter.all false
set_option maxRecDepth 100000
set_option maxHeartbeats 4000000
namespace L2
open PySem PySem.Spec PyProof.Rows
/-- a tracked tuple or list -/
def hoX (t : Bool) (xs : List V) : HO := if t then .tup xs else .lst xs
def SqX (t : Bool) (H : Hp) (a : Addr) (xs : List V) : Prop := H a = some (hoX t xs)
def Ity (t : Bool) (a b : Addr) : It :=
  ⟨fun i H => ∃ xs x ys y, SqX t H a xs ∧ SqX t H b ys ∧ xs[i]? = some x ∧ ys[i]? = some y,
   fun i H v H' => ∃ T x y, H T = none ∧ v = .ref T ∧ H' = upd H T (.tup [x, y]) ∧ (∀ xs, SqX t H a xs → xs[i]? = some x) ∧ ∀ ys, SqX t H b ys → ys[i]? = some y,
   fun i H => ∃ xs, SqX t H a xs ∧ xs.length ≤ i⟩
def iZipX (ta : TA) : TI := fun σ H R => ta σ H fun vs H1 => ∃ t a b xs ys, vs = [.ref a, .ref b] ∧ SqX t H1 a xs ∧ SqX t H1 b ys ∧ R (Ity t a b) H1
/-! ### isinstance, for any class that is built in -/
end L2

end

section
set_option Elab.async false
set_option linter.all false
set_option maxRecDepth 100000
set_option maxHeartbeats 4000000
namespace L2
open PySem PySem.Spec PyProof.Rows
section
variable {X : Cx} {K : PySem.W.Frag}
end
/-- how arguments come: by place with defaults behind; one by name; two by name, the other way round -/
def dP {α : Type} (ds us zs : List α) : List α := us ++ ds
def k1 {α : Type} (us zs : List α) : List α := match us, zs with
  | [a], [b] => [a, b]
  | _, _ => []
def k2s {α : Type} (us zs : List α) : List α := match us, zs with
  | [a], [b, c] => [a, c, b]
  | _, _ => []
theorem bt_tuple : bootBuiltins "tuple" = some (.type "tuple") := by decide +kernel
end L2
namespace Cb
open PySem L2
structure Blt (mg : Str → Option Value) : Prop where
  len : mg "len" = none
  sum : mg "sum" = none
  all : mg "all" = none
  max : mg "max" = none
  min : mg "min" = none
  int : mg "int" = none
  bool : mg "bool" = none
  isinstance : mg "isinstance" = none
  range : mg "range" = none
  enumerate : mg "enumerate" = none
  zip : mg "zip" = none
  str : mg "str" = none
  tuple : mg "tuple" = none
  list : mg "list" = none
/-! ### bags -/
def BagAt (H : Hp) (p : Addr) (n : Nat) : Prop := ∃ a b c : Int, H p = some (.lst [.int a, .int b, .int c]) ∧ 0 ≤ a ∧ 0 ≤ b ∧ b < 2147483647 ∧ 0 ≤ c ∧ c ≤ n
def spBag : Sp := fun vs H Q _ => ∃ (s : Int) (k : Nat), vs = [.int s, .int (k : Int)] ∧ Builtin.Int.intBits s ≤ 2 ^ 20 ∧ k ≤ 63 ∧ ∀ (p : Addr) (H' : Hp), H p = none → BagAt H' p k → Same H H' → Q (.ref p) H'
def spDraw : Sp := fun vs H Q _ => ∃ (p : Addr) (m : Int) (n : Nat), vs = [.ref p, .int m] ∧ BagAt H p n ∧ n < 2 ^ 30 ∧ 0 < m ∧ m ≤ 2 ^ 32 ∧
  ∀ (r : Nat) (H' : Hp), (r : Int) < m → BagAt H' p (n + 1) → (∀ b, b ≠ p → H' b = H b) → Q (.int (r : Int)) H'
def spCellAt (K : PySem.W.Frag) : Sp := fun vs H Q _ => ∃ (a : Addr) (ns : List Int) (k : Nat), vs = [.ref a, .int (k : Int)] ∧ SqL K H a (ns.map V.int) ∧ (∀ m ∈ ns, Builtin.Int.intBits m ≤ 2 ^ 20) ∧ ∀ c : Int, Builtin.Int.intBits c ≤ 2 ^ 20 → Q (.int c) H
def spWord : Sp := fun vs H Q _ => ∃ (p : Addr) (n : Nat), vs = [.ref p] ∧ BagAt H p n ∧ n + 2 < 2 ^ 30 ∧ ∀ (r : Nat) (H' : Hp), r ≤ 255 → BagAt H' p (n + 2) → KeepP p H H' → Q (.int (r : Int)) H'
def spCells : Sp := fun vs H Q _ => ∃ (p : Addr) (n : Nat), vs = [.ref p] ∧ BagAt H p n ∧ n + 2 < 2 ^ 30 ∧ ∀ (r : Nat) (H' : Hp), 1 ≤ r → r ≤ 4096 → BagAt H' p (n + 2) → KeepP p H H' → Q (.int (r : Int)) H'
/-- _law_right's of these: a bag of few draws -/
def spRightB : Sp := fun vs H Q _ => ∃ p : Addr, vs = [.ref p] ∧ BagAt H p 64 ∧ ∀ H', KeepP p H H' → Q (.bl true) H'
/-! ### things alike -/
inductive Lk (H : Hp) : Nat → V → V → Prop where
  | int {n : Nat} (i : Int) : Lk H n (.int i) (.int i)
  | seq {n : Nat} {t : Bool} {a b : Addr} {xs ys : List V} (ha : SqX t H a xs) (hb : SqX t H b ys) (hl : xs.length = ys.length) (hz : xs.length ≤ sizeLine) (h : ∀ (i : Nat) (x y : V), xs[i]? = some x → ys[i]? = some y → Lk H n x y) : Lk H (n + 1) (.ref a) (.ref b)
def spAlike (n : Nat) : Sp := fun vs H Q _ => ∃ v w, vs = [v, w] ∧ Lk H n v w ∧ ∀ H', Same H H' → Q (.bl true) H'
/-! ### chips -/
def NN (ext : List (Str × V)) : Prop := ext = [] ∨ ∃ r : Int, ext = [(("room" : Str), V.int r)]
structure Ob (C : Addr) (H : Hp) (a p : Addr) (ws : List V) (ext : List (Str × V)) : Prop where
  ex : ∃ dx hd, H a = some (.ins C dx (("head", .str hd) :: ("held", .ref p) :: ext))
  ls : H p = some (.lst ws)
  nn : NN ext
structure ClsOk (K : PySem.W.Frag) (C : Addr) : Prop where
  cl : Cls K C
  head : NoAttr K C "head"
  held : NoAttr K C "held"
  room : NoAttr K C "room"
def spIsNum : Sp := fun vs H Q _ => ∃ a b : Int, vs = [.int a, .int b] ∧ Q (.bl (decide (0 ≤ a ∧ a ≤ b))) H
def spIsWord : Sp := fun vs H Q _ => ∃ a : Int, vs = [.int a] ∧ Q (.bl (decide (0 ≤ a ∧ a ≤ 255))) H
def spChkWord : Sp := fun vs H Q _ => ∃ a : Int, vs = [.int a] ∧ 0 ≤ a ∧ a ≤ 255 ∧ Q .non H
def spLen (C : Addr) (L : List V → Nat) : Sp := fun vs H Q _ => ∃ a p ws ext, vs = [.ref a] ∧ Ob C H a p ws ext ∧ Q (.int (L ws : Int)) H
def spChkC (C : Addr) (L : List V → Nat) : Sp := fun vs H Q _ => ∃ a p ws ext, ∃ c : Int, vs = [.ref a, .int c] ∧ Ob C H a p ws ext ∧ 0 ≤ c ∧ c < L ws ∧ L ws ≤ 5000 ∧ Q .non H
def spChkW (C : Addr) (L : List V → Nat) : Sp := fun vs H Q _ => ∃ a p ws ext, ∃ c v : Int, vs = [.ref a, .int c, .int v] ∧ Ob C H a p ws ext ∧ 0 ≤ c ∧ c < L ws ∧ L ws ≤ 5000 ∧ 0 ≤ v ∧ v ≤ 255 ∧ Q .non H
def spLook (C : Addr) : Sp := fun vs H Q _ => ∃ a p ws ext, ∃ (c : Nat) (x : V), vs = [.ref a, .int (c : Int)] ∧ Ob C H a p ws ext ∧ ws.length ≤ 5000 ∧ ws[c]? = some x ∧ Q x H
def spWrite (C : Addr) : Sp := fun vs H Q _ => ∃ a p ws ext, ∃ (c : Nat) (v : Int), vs = [.ref a, .int (c : Int), .int v] ∧ Ob C H a p ws ext ∧ ws.length ≤ 5000 ∧ c < ws.length ∧ 0 ≤ v ∧ v ≤ 255 ∧ Q .non (upd H p (.lst (ws.set c (.int v))))
def spFixW (C : Addr) : Sp := fun vs H Q _ => ∃ a p ws ext, ∃ (c : Nat) (v : Int), vs = [.ref a, .int (c : Int), .int v] ∧ Ob C H a p ws ext ∧ ws.length ≤ 5000 ∧ c < ws.length ∧ 0 ≤ v ∧ v ≤ 255 ∧ Q .non H
def spState (C : Addr) : Sp := fun vs H Q _ => ∃ a p ws ext, vs = [.ref a] ∧ Ob C H a p ws ext ∧ ∀ q, H q = none → Q (.ref q) (upd H q (.tup ws))
def spMetR (C : Addr) : Sp := fun vs H Q _ => ∃ a p ext, ∃ v : Int, vs = [.ref a, .int 0] ∧ Ob C H a p [.int v] ext ∧ Q (.int v) (upd H p (.lst [.int ((v + 1) % 256)]))
def spInit (K : PySem.W.Frag) : Sp := fun vs H Q _ => ∃ a C dx p hd, vs = [.ref a, .str hd, .ref p] ∧ H a = some (.ins C dx []) ∧ ClsOk K C ∧ ∀ H', H' a = some (.ins C dx [("head", .str hd), ("held", .ref p)]) → (∀ b, b ≠ a → H' b = H b) → Q .non H'
/-- a new chip of plain words -/
def NewOb (C : Addr) (H : Hp) (a : Addr) (ws : List V) (Q : VK) : Prop := ∀ (p : Addr) (H' : Hp), H p = none → Ob C H' a p ws [] → KeepP a H H' → Q .non H'
def spMk1 (C : Addr) : Sp := fun vs H Q _ => ∃ a dx, ∃ v : Int, vs = [.ref a, .int v] ∧ 0 ≤ v ∧ v ≤ 255 ∧ H a = some (.ins C dx []) ∧ NewOb C H a [.int v] Q
def spMkS (C : Addr) : Sp := fun vs H Q _ => ∃ a dx, ∃ (n : Nat) (v : Int), vs = [.ref a, .int (n : Int), .int v] ∧ 1 ≤ n ∧ n ≤ 4096 ∧ 0 ≤ v ∧ v ≤ 255 ∧ H a = some (.ins C dx []) ∧ NewOb C H a (List.replicate n (.int v)) Q
def spMkF (C : Addr) : Sp := fun vs H Q _ => ∃ a dx l, ∃ ws : List Nat, vs = [.ref a, .ref l] ∧ H l = some (.lst (vN ws)) ∧ 1 ≤ ws.length ∧ ws.length ≤ 4096 ∧ (∀ w ∈ ws, w ≤ 255) ∧ H a = some (.ins C dx []) ∧ NewOb C H a (vN ws) Q
end Cb

end

section
set_option Elab.async false
set_option linter.all false
set_option maxRecDepth 100000
set_option maxHeartbeats 4000000
namespace L2
open PySem PySem.Spec PyProof.Rows PySem.SeqAt
section
variable {X : Cx} {K : PySem.W.Frag}
/-! ### f"..{v}", v a text -/
def tFs2 (ta tb : TE) : TE := fun σ H Q => ta σ H fun x H1 => ∃ a : Str, x = .str a ∧ a.length ≤ 1000 ∧ tb σ H1 fun y H2 => ∃ b : Str, y = .str b ∧ b.length ≤ 1000 ∧ Q (.str (Str.empty ++ a ++ b)) H2
/-! ### two lists of ints compared -/
def rEqL (K : PySem.W.Frag) (neg : Bool) : R2 := fun x y H Q => ∃ a b, ∃ ns ms : List Int, x = .ref a ∧ y = .ref b ∧ SqL K H a (ns.map V.int) ∧ SqL K H b (ms.map V.int) ∧ Q (.bl (neg != decide (ns = ms))) H
end
end L2

end

section
set_option Elab.async false
set_option linter.all false
set_option maxRecDepth 100000
set_option maxHeartbeats 4000000
namespace L2
open PySem PySem.Spec PyProof.Rows HT PySem.SeqAt
/-! ### tuples: the whole slice, () + t, t[::-1], t != () -/
section
section
variable {prog : Program} {w : World} {A : Around} {E : Value → Shared → Prop} {s : Shared}
theorem getItem_tuple_all {t sl : Addr} {items : Array Value} {vl vu : Value} {lo hi : Option Int} {Q : Value → Shared → Prop} (ht : IsTup s.heap t items) (hs : s.heap.IsSliceOf sl vl vu .none) (pl : IsPart vl lo) (pu : IsPart vu hi)
    (hw : sIx items.size 0 lo = 0 ∧ sIx items.size items.size hi = items.size) (h : Q (.ref t) s) : wpAny (model prog w) A (getItem (.ref t) (.ref sl)) Q E s := by
  obtain ⟨os, hos, hcs, hds⟩ := id hs
  have hTs : s.TypeIs (.ref sl) "slice" := ⟨os, hos, hcs⟩
  unfold getItem
  try with_reducible refine wpAny_holding ?_
  first | refine wpAny_bind (wpAny_pure ?_) | skip
  refine wpAny_bind (wpAny_sequenceKey ht.typeIs (by decide) ?_)
  refine wpAny_bind (wpAny_callSpecial?_slot (name := Str.ofString "__getitem__") ht.typeIs PyProof.Rows.slot_tuple_getitem
    (wpAny_call_entry PyProof.Rows.slot_tuple_getitem ht.typeIs entry_tuple_getitem ?_ (args_tuple_getitem _ _)))
  show wpAny _ _ (Builtin.Tuple.tupleItemsOf (.ref t) >>= _) _ _ s
  refine wpAny_bind (tupleItemsOf_ ht ?_)
  refine wpAny_bind (wpAny_typeOf hTs ?_)
  rw [if_pos (by decide)]
  refine wpAny_bind (sliceApplied_gen hs pl pu ?_)
  rw [hw.1, hw.2, Nat.sub_zero]
  have hyes : ((((0 : Nat) : Int) == 0 && (1 : Int) == 1 && items.size == items.size) = true) := by simp
  show wpAny _ _ (if (((0 : Nat) : Int) == 0 && (1 : Int) == 1 && items.size == items.size) = true then _ else _) _ _ s
  rw [if_pos hyes]
  refine wpAny_bind (m := Builtin.Tuple.tupleIsExact _) ?_
  unfold Builtin.Tuple.tupleIsExact
  refine wpAny_bind (wpAny_typeOf ht.typeIs (wpAny_pure ?_))
  rw [if_pos (by decide)]
  refine wpAny_bind (wpAny_rule ?_)
  exact wpAny_pure ⟨_, rfl, wpAny_pure h⟩
end
end
section
variable {X : Cx} {K : PySem.W.Frag}
/-- t[lo:hi]: a tuple of these items, it itself where it is the whole -/
def rSlT2 (K : PySem.W.Frag) : V → Option Int → Option Int → Hp → VK → Prop := fun x lo hi H Q => ∃ a xs, x = .ref a ∧ SqT K H a xs ∧ (cutV xs lo hi = xs → Q (.ref a) H) ∧ ∀ p, H p = none → Q (.ref p) (upd H p (.tup (cutV xs lo hi)))
theorem sl_tup2 (hK : X.K = K) : SlR X (rSlT2 K) := by
  subst hK
  intro pins s σ H x v vl vu lo hi sl Q I rx hs pl pu h
  obtain ⟨a, xs, rfl, hx, q0, q⟩ := h
  by_cases hw : sIx xs.length 0 lo = 0 ∧ sIx xs.length xs.length hi = xs.length
  · cases rx
    obtain ⟨its, r, ht, hz⟩ := I.tuple hx
    have hlen : its.toArray.size = xs.length := by rw [List.size_toArray]; exact r.length.symm
    refine ⟨"tuple", _, PyProof.Rows.slot_tuple_getitem.lookup, ht.typeIs, ?_⟩
    refine getItem_tuple_all ht hs pl pu (by rw [hlen]; exact hw) ?_
    exact ⟨.ref a, H, I, rfl, q0 (by unfold cutV; rw [hw.1, hw.2]; simp)⟩
  · exact sl_tup pins s σ H _ v vl vu lo hi sl Q I rx hs pl pu ⟨a, xs, rfl, hx, hw, q⟩
/-- t + u -/
def rCatT2 (K : PySem.W.Frag) : R2 := fun x y H Q => ∃ a b xs ys, x = .ref a ∧ y = .ref b ∧ SqT K H a xs ∧ SqT K H b ys ∧ xs.length + ys.length ≤ sizeLine ∧
  (xs = [] → Q (.ref b) H) ∧ (ys = [] → Q (.ref a) H) ∧ (∀ p, H p = none → Q (.ref p) (upd H p (.tup (xs ++ ys))))
def tRevT (K : PySem.W.Frag) (te : TE) : TE := fun σ H Q => te σ H fun x H1 => ∃ a xs, x = .ref a ∧ SqT K H1 a xs ∧ ∀ p, H1 p = none → Q (.ref p) (upd H1 p (.tup xs.reverse))
/-- t != () -/
def rNeT0 (K : PySem.W.Frag) : R2 := fun x y H Q => ∃ a b xs, x = .ref a ∧ y = .ref b ∧ SqT K H a xs ∧ SqT K H b [] ∧ Q (.bl (!xs.isEmpty)) H
/-- xs != [] -/
def rNeL0 (K : PySem.W.Frag) : R2 := fun x y H Q => ∃ a b xs, x = .ref a ∧ y = .ref b ∧ SqL K H a xs ∧ SqL K H b [] ∧ Q (.bl (!xs.isEmpty)) H
theorem op_neL0 (hu : X.A.units < cLine) (hK : X.K = K) : OpR X (compareOp .NotEq) (rNeL0 K) := by
  subst hK
  rintro pins s σ H x y v u Q I rx ry ⟨a, b, xs, rfl, rfl, ha, hb, q⟩
  cases rx; cases ry
  obtain ⟨its, r1, p1, _⟩ := I.list ha
  obtain ⟨its2, r2, p2, _⟩ := I.list hb
  obtain rfl := r2.nil_iff.mpr rfl
  have e : its.toArray.size = xs.length := by rw [List.size_toArray]; exact r1.length.symm
  cases xs with
  | nil =>
    refine RcNeAt.lists (e := fun _ => true) p1.isList p2.isList (by rw [e]; rfl) hu (fun j h1 h2 => absurd h2 (by simp)) _ _ _ _ ⟨.bl false, H, I, ?_, q⟩
    rw [e]; rfl
  | cons z zs => exact RcNeAt.lists_lengths p1.isList p2.isList (by rw [e]; exact bne_iff_ne.mpr (by simp)) hu _ _ _ _ ⟨.bl true, H, I, rfl, q⟩
/-- a comprehension over a tuple -/
theorem comp_tup {g : TG} {tf : TT} {te : TE} {Q : List V → Hp → Prop} {σ : St} {H : Hp} {a : Addr} {xs : List V} (Pv : Nat → List V → St → Hp → Prop) (hn : xs.length ≤ sizeLine) (h0 : Pv 0 [] σ H) (hl : ∀ i ys σ H, i ≤ xs.length → Pv i ys σ H → SqT K H a xs ∧ ys.length ≤ i)
    (hs : ∀ i x ys σ H, xs[i]? = some x → Pv i ys σ H → g x σ H fun σ2 H2 => tf σ2 H2 fun b H3 => if b = true then te σ2 H3 fun y H4 => Pv (i + 1) (ys ++ [y]) σ2 H4 else Pv (i + 1) ys σ2 H3)
    (hd : ∀ ys σ H, Pv xs.length ys σ H → Q ys H) : CompW (Itt K a) g tf te Q σ H := by
  refine ⟨fun i m ys σ H => m = xs.length - i ∧ i ≤ xs.length ∧ Pv i ys σ H, ⟨xs.length, by simp, Nat.zero_le _, h0⟩, ?_⟩
  rintro i m ys σ H ⟨rfl, hi, p⟩
  obtain ⟨q, hz⟩ := hl i ys σ H hi p
  by_cases hlt : i < xs.length
  · refine .inr ⟨⟨xs, xs[i], q, by simp [hlt]⟩, by omega, Pv (i + 1), fun ys' σ' H' p' => ⟨xs.length - (i + 1), by omega, rfl, hlt, p'⟩, fun x H' y => ?_⟩
    obtain ⟨e, y⟩ := y
    subst e
    exact hs i x ys σ _ (y xs q) p
  · have e : i = xs.length := by omega
    subst e
    exact .inl ⟨⟨xs, q, Nat.le_refl _⟩, by omega, hd ys σ H p⟩
end
end L2

end

section
set_option Elab.async false
set_option linter.all false
set_option maxRecDepth 100000
set_option maxHeartbeats 4000000
namespace L2
open PySem PySem.Spec PyProof.Rows HT
/-! ### an exception's way: which objects it changes -/
/-- but for what stands at ch, and for the slots of what stands at fs, all is as it was -/
def Slid (fs ch : List Addr) (h h' : Heap) : Prop := ∀ b o, h.get? b = some o → b ∉ ch → (b ∉ fs → h'.get? b = some o) ∧ ∃ sl, h'.get? b = some { o with slots := sl }
/-- an exception of the class cls at e, the first entry of its way at T -/
def XAt (h : Heap) (e T : Addr) (cls fl : Value) : Prop := ∃ oe vs oT ts, h.get? e = some oe ∧ (oe.cls = cls ∧ oe.dict = none) ∧ oe.data = .fields vs ∧ vs[1]? = some (.ref T) ∧ T ≠ e ∧ h.get? T = some oT ∧ oT.data = .fields ts ∧ ts[3]? = some fl
section
variable {M : Model} {A : Around} {E : Value → Shared → Prop} {s : Shared}
end
end L2

end

section
set_option Elab.async false
set_option linter.all false
set_option maxRecDepth 100000
set_option maxHeartbeats 4000000
namespace L2
open PySem PySem.Spec PyProof.Rows HT
section
variable {P : Program} {w : World} {H H' : Hp} {h h' : Heap} {fs ch : List Addr}
end
section
variable {X : Cx} {pins : List (Addr × Obj)} {σ : St} {H : Hp} {s : Shared} {h' : Heap} {ch : List Addr}
end
/-! ### how an exception of an own class lies behind a call -/
def CX1 (P : Program) (w : World) : CXT := fun outer H s E e s' => ∃ ea T H' C, e = .ref ea ∧ s'.os = s.os ∧ AllBare s'.gens ∧ Un (frs outer) [] H H' s.heap s'.heap ∧ HOk P w H' s'.heap ∧ XAt s'.heap ea T (.ref C) .none ∧
  s.heap.get? ea = none ∧ s.heap.get? T = none ∧ H' ea = none ∧ H' T = none ∧ E (.ref C) none H'
end L2

end

section
set_option Elab.async false
set_option linter.all false
set_option maxRecDepth 100000
set_option maxHeartbeats 4000000
namespace L2
open PySem PySem.Spec PyProof.Rows HT
/-! ### an own class under ValueError, without an __init__ of its own -/
def NsK (K : PySem.W.Frag) (N : Addr) : Prop := ∃ c d es ep sl, K.lookup N = some ⟨c, d, .dict es ep, sl⟩ ∧ StrKeys es ∧ nsFind es "__init__" = none
def bmV : List Value := [.type "ValueError", .type "Exception", .type "BaseException", .type "object"]
inductive TailK (K : PySem.W.Frag) : List Value → Prop
  | base : TailK K bmV
  | own {A : Addr} {c0 : Value} {dd : Option Addr} {cd : ClassData} {sl : Array (Option Value)} {tl : List Value} : K.lookup A = some ⟨c0, dd, .cls cd, sl⟩ → NsK K cd.ns → TailK K tl → TailK K (.ref A :: tl)
structure ExcK (K : PySem.W.Frag) (C : Addr) : Prop where
  ex : ∃ nm q N bs bm hdct sn sub ab col dd k0 k1 k2 k3 k5, K.lookup C = some (excClassObj nm q C N bs bm hdct sn sub ab col dd k0 k1 k2 k3 k5 "ValueError.__new__") ∧ NsK K N ∧ TailK K bm
section
variable {X : Cx} {x : Str} {C : Addr} {e : Expr} {te : TE} {np cpos pos : Pos} {R : Hp → Prop}
def one1 (R : Hp → Prop) : List V → Hp → Prop
  | [_], H => R H
  | _, _ => False
end
end L2

end

section
set_option Elab.async false
set_option linter.all false
set_option maxRecDepth 100000
set_option maxHeartbeats 4000000
namespace L2
open PySem PySem.Spec PyProof.Rows HT
/-! ### a def that may raise -/
structure CalX (P : Program) (w : World) (K : PySem.W.Frag) (mg : Str → Option Value) (base : Heap) (k : Nat) (x : Str) (ps : List Str) (sp : Sp) : Prop where
  ex : ∃ f fd, FnOk P w K mg base (CX1 P w) k f fd ps sp ∧ mg x = some (.ref f) ∧ PySem.W.keepIn K (.ref f) = true ∧ Binds K fd ps []
/-! ### within an except suite -/
abbrev Cx.marked (X : Cx) (e : Value) : Cx := { X with A := X.A.mark (some e), calm := false }
/-- an object of the class cls -/
def xIs (ea : Addr) (cls : Value) : Heap → Prop := fun h => ∃ o vs, h.get? ea = some o ∧ (o.cls = cls ∧ o.dict = none) ∧ o.data = .fields vs
section
variable {X : Cx} {pins : List (Addr × Obj)} {σ : St} {H : Hp} {s : Shared}
end
end L2

end

section
set_option Elab.async false
set_option linter.all false
set_option maxRecDepth 100000
set_option maxHeartbeats 4000000
namespace L2
open PySem PySem.Spec PyProof.Rows HT
/-! ### try: x = f(e)  except C as n: y = n -/
def tTryC (K : PySem.W.Frag) (sp : Sp) (i j l : Nat) (Cb : Addr) (ta : TA) : TS := fun D σ H => ta σ H fun vs H1 => sp (vs ++ []) H1 (fun v H2 => D.nx (σ.set i (some v)) H2)
  fun cls _ H2 => PySem.W.exmOne K cls (.ref Cb) = some true ∧ ∀ ea, H2 ea = none → D.nx ((((σ.set j (some (.ref ea))).set l (some (.ref ea))).set j (some .non)).set j none) (upd H2 ea (.ext (xIs ea cls)))
section
variable {X : Cx} {k : Nat} {ps : List Str} {sp : Sp} {x fn cn n y : Str} {i j l : Nat} {Cb : Addr} {e : Expr} {t : TA} {px p1 p2 p3 p4 p5 p6 p7 p8 p9 : Pos}
end
end L2

end

section
set_option Elab.async false
set_option linter.all false
set_option maxRecDepth 100000
set_option maxHeartbeats 4000000
namespace L2
open PySem PySem.Spec PyProof.Rows HT PySem.W PySem.Calls
/-! ### isinstance of an exception -/
section
variable {prog : Program} {w : World} {A : Around} {E : Value → Shared → Prop} {s : Shared} {K : Frag} {x C : Addr} {ox : Obj}
/-- what the fragment tells of an own exception's class -/
structure XCls (K : Frag) (C : Addr) : Prop where
  look : ∃ c d cd sl, K.lookup C = some ⟨c, d, .cls cd, sl⟩
  ga : findIn K (.ref C) "__getattribute__" = some (some (.builtin "BaseException.__getattribute__"))
  gr : findIn K (.ref C) "__getattr__" = some none
  cf : findObj K C none "__class__" = some (.bind (.builtin "getset_descriptor.__get__") (.builtin "object.__class__"))
  sub : subIn K (.ref C) (.type "BaseException") = some true
  mro : mroIn K C (.type "object") = some true
end
section
variable {X : Cx} {K : Frag}
end
end L2

end

section
set_option Elab.async false
set_option linter.all false
set_option maxRecDepth 100000
set_option maxHeartbeats 4000000
namespace L2
open PySem PySem.Spec PyProof.Rows HT
section
variable {X : Cx} {K : PySem.W.Frag}
/-! ### f"{v}..", v a small int -/
def tFsI (ta tb : TE) : TE := fun σ H Q => ta σ H fun x H1 => ∃ i : Int, x = .int i ∧ i.natAbs < 1000 ∧ tb σ H1 fun y H2 => ∃ b : Str, y = .str b ∧ b.length ≤ 1000 ∧ ∀ z : Str, Q (.str z) H2
end
end L2

end

section
set_option Elab.async false
set_option linter.all false
set_option maxRecDepth 100000
set_option maxHeartbeats 4000000
namespace L2
open PySem PySem.Spec PyProof.Rows HT
/-! ### an exception of a callee passes through the body of a def -/
section
variable {P : Program} {w : World} {K : PySem.W.Frag} {mg : Str → Option Value} {base : Heap} {N : List Str} {qual : Str} {scope : Scope} {f : Addr} {cd : Value} {A : Around} {outer : List Env} {s : Shared} {H : Hp} {E : XK}
variable {k : Nat} {ps : List Str} {sp : Sp} {x : Str} {p pos : Pos} {e : Expr} {es : List Expr} {t : TA}
end
/-! ### n.bit_length() -/
def rBitLen : V → List V → Hp → VK → Prop := fun x vs H Q => ∃ i : Int, x = .int i ∧ vs = [] ∧ Q (.int (Builtin.Int.intBits i : Nat)) H
end L2

end

section
set_option Elab.async false
set_option linter.all false
set_option maxRecDepth 100000
set_option maxHeartbeats 4000000
namespace L2
open PySem PySem.Spec PyProof.Rows HT
/-! ### try: x = f(e, ..)  except C as n: y = n -/
section
variable {X : Cx} {k : Nat} {ps : List Str} {sp : Sp} {x fn cn n y : Str} {i j l : Nat} {Cb : Addr} {e : Expr} {es : List Expr} {t : TA} {px p1 p2 p3 p4 p5 p6 p7 p8 p9 : Pos}
end
end L2

end

section
set_option Elab.async false
set_option linter.all false
set_option maxRecDepth 100000
set_option maxHeartbeats 4000000
namespace L2
open PySem PySem.Spec PyProof.Rows HT
/-! ### enumerate of a tuple -/
theorem draws_tup {prog : Program} {w : World} {A : Around} (hh : A.handled = none) (it l : Addr) (hne : l ≠ it) (items : Array Value) :
    Draws prog w A it [it, l] items.size (fun i v => items[i]? = some v) (fun i h => IsIt true h it l i ∧ IsSq true h l items) where
  live := fun _ _ st => let ⟨o, ho, _⟩ := st.1; ⟨o, ho⟩
  frame := fun _ _ _ st hk => ⟨st.1.at fun o e => hk it (by simp) o e, st.2.at fun o e => hk l (by simp) o e⟩
  item := fun i s Q E hi st hQ => by
    refine nx_item st.1 st.2 (x := items[i]) (by simp [hi]) fun h' hit' hs' => ?_
    exact hQ _ h' s.toks (by simp [hi]) ⟨hit', st.2.at fun o e => hs'.extBut l o hne e⟩ hs'
  done := fun s Q E st hE => nx_end hh st.1 st.2 (by simp) hE
theorem meets_enumerate_newT (l : Addr) (items : Array Value) (n : Nat) (dct : Option Addr) (sl : Array (Option Value)) :
    Meets (Builtin.«enumerate.__new__» ⟨[.type "enumerate", .ref l], []⟩) (fun _ R s => s.heap.get? l = some { cls := .type "tuple", dict := dct, data := .seq items n, slots := sl } ∧
      R (.ok (.ret (.ref (s.heap.push { cls := .type "tuple_iterator", data := .fields #[.ref l, .int 0 0] }).objs.size)))
        { s with heap := (s.heap.push { cls := .type "tuple_iterator", data := .fields #[.ref l, .int 0 0] }).push { cls := .type "enumerate", data := .fields #[.none, .bool false, .ref s.heap.objs.size, rawInt 0, .none, .none] } }) :=
  .of_wp fun prog w A R s h => by
    obtain ⟨hp, g, d, tk, os⟩ := s; obtain ⟨hl, h⟩ := h
    have hsub := sub_enumerate
    have hL : Heap.IsTuple (Shared.heap ⟨hp, g, d, tk, os⟩) l items := ⟨_, hl, rfl, n, rfl⟩
    wp_walk using wpAny_loadPart' hl
    refine wpAny_stack_any fun st => wpAny_pure ?_
    split
    · rename_i c _ _ _ _ _
      cases (c == Value.type "enumerate")
      · wp_walk using wpAny_loadPart' hl, wpAny_pyIter_tuple hL
        exact ⟨_, rfl, h⟩
      · wp_walk using wpAny_loadPart' hl, wpAny_pyIter_tuple hL
        exact ⟨_, rfl, h⟩
    · wp_walk using wpAny_loadPart' hl, wpAny_pyIter_tuple hL
      exact ⟨_, rfl, h⟩
theorem call_enumerate_tup {prog : Program} {w : World} {A : Around} {E : Value → Shared → Prop} {s : Shared} {l : Addr} {items : Array Value} {Q : Value → Shared → Prop} (hL : IsSq true s.heap l items)
    (h : ∀ h', IsEnum h' (s.heap.objs.size + 1) s.heap.objs.size 0 .none → IsIt true h' s.heap.objs.size l 0 → h'.objs.size = s.heap.objs.size + 2 →
      (∀ b o, s.heap.get? b = some o → h'.get? b = some o) → Q (.ref (s.heap.objs.size + 1)) { s with heap := h' }) :
    wpAny (model prog w) A (call (.type "enumerate") [.ref l]) Q E s := by
  obtain ⟨⟨c, dct, dt, sl⟩, hl, hc, n, hd⟩ := hL
  replace hc : c = .type "tuple" := hc
  replace hd : dt = .seq items n := hd
  subst hc hd
  refine callType_new F.called_enumerate (by decide) (F.typeCall_enumerate_1 _) (F.newCall_enumerate_1 _) (fun obj => F.args_object_init_2 obj _) F.entry_enumerate_new
    (meets_enumerate_newT l items n dct sl) ⟨hl, ?_⟩
  have hz : (s.heap.push { cls := .type "tuple_iterator", data := .fields #[.ref l, .int 0 0] }).objs.size = s.heap.objs.size + 1 := Heap.size_push ..
  show _ ∧ _
  rw [hz]
  have he : IsEnum ((s.heap.push { cls := .type "tuple_iterator", data := .fields #[.ref l, .int 0 0] }).push
      { cls := .type "enumerate", data := .fields #[.none, .bool false, .ref s.heap.objs.size, rawInt 0, .none, .none] }) (s.heap.objs.size + 1) s.heap.objs.size 0 .none := by
    have := Heap.get?_push_size (s.heap.push { cls := .type "tuple_iterator", data := .fields #[.ref l, .int 0 0] })
      (o := { cls := .type "enumerate", data := .fields #[.none, .bool false, .ref s.heap.objs.size, rawInt 0, .none, .none] }) rfl
    rw [hz] at this; exact this
  refine ⟨⟨_, he, rfl⟩, h _ he ⟨_, Heap.get?_push_of_some _ (Heap.get?_push_size _ rfl), rfl, rfl⟩ (by rw [Heap.size_push, hz]) fun b o x => Heap.get?_push_of_some _ (Heap.get?_push_of_some _ x)⟩
def IteT (K : PySem.W.Frag) (a : Addr) : It :=
  ⟨fun i H => ∃ xs x, SqT K H a xs ∧ xs[i]? = some x,
   fun i H v H' => ∃ T x, H T = none ∧ v = .ref T ∧ H' = upd H T (.tup [.int i, x]) ∧ ∀ xs, SqT K H a xs → xs[i]? = some x,
   fun i H => ∃ xs, SqT K H a xs ∧ xs.length = i⟩
theorem turn_enumT {P : Program} {w : World} {K : PySem.W.Frag} {elts : List Expr} {kt : Nat} {tp : Pos} (a e it : Addr) (hne : e ≠ it) :
    Turn P w K (.Tuple elts kt tp) (IteT K a) [e, it] e (fun i h => (∃ old, IsEnum h e it i old) ∧ IsIt true h it a i) where
  mem := by simp
  obj := fun i h st b hb => by
    obtain ⟨⟨old, he⟩, hi⟩ := st
    rcases List.mem_cons.mp hb with z | z
    · subst z
      exact ⟨_, he, fun v z => by
        have z' : Data.fields _ = Data.cell v := z
        cases z'⟩
    · have z := List.mem_singleton.mp z
      subst z
      obtain ⟨o, e1, c, d⟩ := hi
      exact ⟨o, e1, fun v z => by rw [d] at z; cases z⟩
  keep := fun i h h' st k => by
    obtain ⟨⟨old, he⟩, hi⟩ := st
    exact ⟨⟨old, k e (by simp) _ he⟩, hi.at fun o e1 => k it (by simp) o e1⟩
  item := by
    intro X hP hw hK hc i pins s σ H E I hf st hg
    subst hP hw hK
    obtain ⟨xs, x, hq, hx⟩ := hg
    obtain ⟨its, rv, p, hz⟩ := I.tuple hq
    obtain ⟨u, hu, ru⟩ := rv.get hx
    obtain ⟨⟨old, he⟩, hi⟩ := st
    have hsq : IsSq true s.heap a its.toArray := p
    have cls : ∀ b o, s.heap.get? b = some o → o.cls ≠ .type "tuple" → a ≠ b := fun b o e nc z => by
      obtain ⟨oa, ea, ca, _⟩ := hsq
      rw [z, e] at ea; cases ea; exact nc ca
    have hai : a ≠ it := by
      obtain ⟨o, e1, c, _⟩ := id hi
      exact cls it o e1 (by rw [c]; decide)
    have hae : a ≠ e := cls e _ he (by show Value.type "enumerate" ≠ Value.type "tuple"; decide)
    have hlt : i < its.toArray.size := by
      have := (List.getElem?_eq_some_iff.mp hu).1
      simpa using this
    refine wpAny_pyNext_enum_itemD (draws_tup (prog := X.prog) (w := X.w) (A := X.A.in1) (show X.A.in1.handled = none from I.ok.hd hc) it a hai its.toArray) he ⟨hi, hsq⟩ hlt hne (by simp [hne, Ne.symm hae]) fun x' h' tk hx' ho st' ht hsz kk => ⟨_, rfl, ?_⟩
    have ex : x' = u := by
      have e1 : its[i]? = some x' := by simpa using hx'
      rw [hu] at e1; cases e1; rfl
    subst ex
    refine wpAny_letOwnedTupleGo_enum ho fun h2 he2 sb => ?_
    have fT : FpOk X pins H s.heap.objs.size := I.fpOk (Nat.le_refl _) (I.hok.fresh (Nat.le_refl _))
    have k2 : ∀ b o, b ∉ [e, it] → s.heap.get? b = some o → h2.get? b = some o := fun b o hb e1 => by
      simp only [List.mem_cons, List.mem_nil_iff, or_false, not_or] at hb
      exact (sb.2 b hb.1).trans (kk b o hb.1 hb.2 e1)
    have I1 : Inv X pins σ H { s with heap := h2, toks := tk + 1 } := I.turnedL (ch := [e, it]) k2 hf
    have eT : h2.get? s.heap.objs.size = some { cls := .type "tuple", data := .seq #[.int i tk, x'] } := (sb.2 _ (Nat.ne_of_gt (Heap.lt_size he))).trans ht
    have I2 := I1.track (o := .tup [.int i, x]) fT (Nat.le_trans I.sz (Nat.le_refl _)) (tup2_ok ⟨_, rfl⟩ ru eT)
    refine ⟨.ref s.heap.objs.size, _, I2, rfl, ⟨_, x, fT.1, rfl, rfl, fun ys hy => by rw [I.tuple_inj hy hq]; exact hx⟩, ⟨⟨x', by exact_mod_cast he2⟩, st'.1.at fun o e1 => sb.extBut it o (Ne.symm hne) e1⟩, fun b hb => ?_⟩
    obtain ⟨o, eb⟩ : ∃ o, s.heap.get? b = some o := by
      rcases List.mem_cons.mp hb with z | z
      · subst z; exact ⟨_, he⟩
      · have z := List.mem_singleton.mp z
        subst z
        obtain ⟨o, e1, _⟩ := hi
        exact ⟨o, e1⟩
    rw [upd_ne (Nat.ne_of_lt (Heap.lt_size eb))]
    exact (hf b hb).1
  done := by
    intro X hP hw hK hc i pins s σ H E I hf st hg
    subst hP hw hK
    obtain ⟨xs, hq, hx⟩ := hg
    obtain ⟨its, rv, p, hz⟩ := I.tuple hq
    obtain ⟨⟨old, he⟩, hi⟩ := st
    have hl := rv.length
    have hsq : IsSq true s.heap a its.toArray := p
    have hai : a ≠ it := fun z => by
      obtain ⟨oa, ea, ca, _⟩ := id hsq
      obtain ⟨o, e1, c, _⟩ := id hi
      rw [z, e1] at ea; cases ea
      rw [c] at ca; exact absurd ca (by decide)
    have en : its.toArray.size = i := by rw [List.size_toArray]; omega
    refine wpAny_pyNext_enum_endD (draws_tup (prog := X.prog) (w := X.w) (A := X.A.in1) (show X.A.in1.handled = none from I.ok.hd hc) it a hai its.toArray) he (by rw [en]; exact ⟨hi, hsq⟩) fun h' eb => ⟨rfl, I.turnedL (t' := s.toks) (ch := [e, it]) (fun b o hb e1 => eb b o (fun z => hb (by simp [z])) e1) hf⟩
  self := fun _ _ _ _ _ st h => by
    obtain ⟨⟨old, he⟩, hi⟩ := st
    exact wpAny_pyIter_enum he h
def iEnumT (K : PySem.W.Frag) (ta : TA) : TI := fun σ H R => ta σ H fun vs H1 => ∃ a, vs = [.ref a] ∧ (∃ xs, SqT K H1 a xs) ∧ R (IteT K a) H1
theorem pi_enumT {X : Cx} {a : Expr} {ta : TA} {p pos : Pos} {elts : List Expr} {kt : Nat} {tp : Pos} (hg : Gl X "enumerate") (hm : X.mg "enumerate" = none) (ha : PA X [a] ta) (hs : starEach [a] X.env = [(false, eval a X.env)] := by rfl) :
    PI X (.Tuple elts kt tp) (.Call (.Name "enumerate" p) [a] [] pos) (iEnumT X.K ta) := by
  intro pins s σ H R I h
  refine Call_ (ld_blt I hg hm boot_enumerate (PyProof.Rows.callWith_type1 (thn (ha pos pins s σ H _ I h) fun us s1 ⟨vs, H1, I1, r1, q1⟩ => ?_) hs rfl))
  obtain ⟨l, e, ⟨xs, hq⟩, q⟩ := q1
  subst e
  obtain ⟨u, rfl, ru⟩ := vals1 r1
  cases ru
  obtain ⟨its, rv, pl, hz⟩ := I1.tuple hq
  refine call_enumerate_tup (items := its.toArray) pl fun h' he hi hsz kk => ?_
  refine wpAny_pyIter_enum he ?_
  have I2 : Inv X pins σ H1 { s1 with heap := h', toks := s1.toks } := I1.kept kk
  refine ⟨s1.heap.objs.size + 1, [s1.heap.objs.size + 1, s1.heap.objs.size], _, _, H1, rfl, I2, turn_enumT l _ _ (Nat.succ_ne_self _), ⟨⟨_, he⟩, hi⟩, fun b hb => ?_, q⟩
  rcases List.mem_cons.mp hb with z | z
  · subst z; exact I1.fpOk (Nat.le_succ _) (I1.hok.fresh (Nat.le_succ _))
  · have z := List.mem_singleton.mp z
    subst z; exact I1.fpOk (Nat.le_refl _) (I1.hok.fresh (Nat.le_refl _))
theorem for_enumT {K : PySem.W.Frag} {a : Addr} {xs : List V} {g : TG} {tb : TS} {D : Ends} {σ : St} {H : Hp} (Pv : Nat → St → Hp → Prop) (h0 : Pv 0 σ H) (hl : ∀ i σ H, i ≤ xs.length → Pv i σ H → SqT K H a xs)
    (hs : ∀ i x T σ H, xs[i]? = some x → H T = none → Pv i σ H → g (.ref T) σ (upd H T (.tup [.int i, x])) fun σ2 H2 => tb { D with nx := Pv (i + 1), ct := Pv (i + 1), bk := D.nx } σ2 H2) (hd : ∀ σ H, Pv xs.length σ H → D.nx σ H) :
    ∃ W : Nat → Nat → St → Hp → Prop, (∃ m, W 0 m σ H) ∧ ∀ i m σ H, W i m σ H →
      ((IteT K a).stop i H ∧ D.nx σ H) ∨ ((IteT K a).go i H ∧ ∃ N : St → Hp → Prop, (∀ σ' H', N σ' H' → ∃ m', m' < m ∧ W (i + 1) m' σ' H') ∧ ∀ x H', (IteT K a).yld i H x H' → g x σ H' fun σ2 H2 => tb { D with nx := N, ct := N, bk := D.nx } σ2 H2) := by
  refine ⟨fun i m σ H => m = xs.length - i ∧ i ≤ xs.length ∧ Pv i σ H, ⟨xs.length, by simp, Nat.zero_le _, h0⟩, ?_⟩
  rintro i m σ H ⟨rfl, hi, p⟩
  have q := hl i σ H hi p
  by_cases hlt : i < xs.length
  · refine .inr ⟨⟨xs, xs[i], q, by simp [hlt]⟩, Pv (i + 1), fun σ' H' p' => ⟨xs.length - (i + 1), by omega, rfl, hlt, p'⟩, fun v H' y => ?_⟩
    obtain ⟨T, x, hT, rfl, rfl, y⟩ := y
    exact hs i x T σ _ (y xs q) hT p
  · have e : i = xs.length := by omega
    subst e
    exact .inl ⟨⟨xs, q, rfl⟩, hd σ H p⟩
end L2

end

section
set_option Elab.async false
set_option linter.all false
set_option maxRecDepth 100000
set_option maxHeartbeats 4000000
namespace L2
open PySem PySem.Spec PyProof.Rows HT
/-! ### sorted(d), the keys ints -/
section
variable {prog : Program} {w : World} {A : Around} {E : Value → Shared → Prop} {s : Shared}
/-- sorted, whatever is sorted: what collect gives, and how the new list is sorted -/
theorem sorted_by {r : Addr} {Q : Value → Shared → Prop} (h : wpAny (model prog w) A.in1 (collect (.ref r)) (fun vs s1 => vs.length ≤ sizeLine ∧ wpAny (model prog w) A.in1.in1 (Builtin.«list.sort» ⟨[.ref s1.heap.objs.size], []⟩)
      (fun fin s2 => fin = .done (.ret .none) ∧ Q (.ref s1.heap.objs.size) s2) E { s1 with heap := s1.heap.push (seqObj "list" vs.toArray 0) }) E s) :
    wpAny (model prog w) A (call (.builtin "sorted") [.ref r]) Q E s := by
  refine Calls.call_function_entry kind_sorted plain_sorted entry_sorted (args_sorted1 _) ?_
  unfold Builtin.«sorted»
  refine wpAny_bind (m := checkCount "sorted" 1 1 _) (wpAny_pure ?_)
  refine wpAny_bind (wpAny_mono h (fun vs s1 ⟨hz, h⟩ => ?_) fun _ _ e => e)
  refine wpAny_bind (wpAny_newList ?_ hz)
  refine wpAny_bind (wpAny_holding (wpAny_call_entry slot_list_sort ⟨_, Heap.get?_push_size _ rfl, rfl⟩ entry_list_sort (wpAny_mono h (fun fin s2 ⟨e, q⟩ => ?_) fun _ _ e => e) (args_list_sort _)))
  subst e
  exact ⟨_, rfl, wpAny_pure ⟨_, rfl, q⟩⟩
end
theorem kv_length {κ : Type} : ∀ {kvs : List (κ × V)} {vs : List (κ × Value)}, KV kvs vs → vs.length = kvs.length
  | _, _, .nil => rfl
  | _, _, .cons _ r => by rw [List.length_cons, List.length_cons, kv_length r]
theorem kv_get {κ : Type} : ∀ {kvs : List (κ × V)} {vs : List (κ × Value)}, KV kvs vs → ∀ (j : Nat) (k : κ) (x : Value), vs[j]? = some (k, x) → ∃ y, kvs[j]? = some (k, y) ∧ RelV y x
  | _, _, .nil, j, k, x, h => by simp at h
  | _, _, .cons (a := a) hp r, 0, k, x, h => by
    obtain ⟨a1, a2⟩ := a
    cases h
    obtain ⟨e, rr⟩ := hp
    exact ⟨a2, by rw [show a1 = k from e]; rfl, rr⟩
  | _, _, .cons _ r, j + 1, k, x, h => kv_get r j k x h
section
variable {X : Cx}
/-! ### d.items() -/
def vwD (p a : Addr) : Heap → Prop := fun h => h.IsItemsView p a
theorem mt_items : MtR X "dict.items" (fun x vs H Q => ∃ (a : Addr) (kvs : List (Key × V)), x = .ref a ∧ vs = [] ∧ H a = some (.dK kvs) ∧ ∀ p, H p = none → Q (.ref p) (upd H p (.ext (vwD p a)))) := by
  rintro pins s σ H x vs v us Q I rx rv ⟨a, kvs, rfl, rfl, e, q⟩
  obtain rfl : v = Value.ref a := rx
  have hus := rv.zero
  subst hus
  obtain ⟨hz, lo, vs, rel, dd⟩ := dk_of I.hok e
  refine call_meetsIn PySem.F.slot_dict_items dd.typeIs PySem.F.entry_dict_items (PySem.F.args_dict_items_1 _) (meets_dict_items (mixKind X.prog X.w) a lo) ⟨⟨vs, dd⟩, ?_⟩
  refine ⟨.ref s.heap.objs.size, _, I.laid (t' := s.toks) (o := .ext (vwD s.heap.objs.size a)) (fun b o eb => Heap.get?_push_of_some _ eb) (Nat.le_refl _) ?_, rfl, q _ (I.hok.fresh (Nat.le_refl _))⟩
  have g : (s.heap.push { cls := .type "dict_items", data := .fields #[.ref a] }).get? s.heap.objs.size = some { cls := .type "dict_items", data := .fields #[.ref a] } := Heap.get?_push_size _ rfl
  exact ⟨⟨_, g, rfl, rfl⟩, ⟨_, g⟩, fun h1 h2 ⟨o1, q1, q2, q3⟩ k => ⟨o1, k _ q1, q2, q3⟩⟩
end
end L2

end

section
set_option Elab.async false
set_option linter.all false
set_option maxRecDepth 100000
set_option maxHeartbeats 4000000
namespace L2
open PySem PySem.Spec PyProof.Rows HT
section
variable {prog : Program} {w : World} {A : Around} {E : Value → Shared → Prop} {s : Shared}
def tupI (k v : Int) (t u : Tok) : Obj := { cls := .type "tuple", data := .seq #[.int k t, .int v u] }
theorem kas_two (C : Nat → Nat → (Bool → Shared → Prop) → Shared → Prop) (G : Array Nat → Shared → Prop) (b : Bool) (s1 : Shared) (hc : ∀ K : Bool → Shared → Prop, K b s1 → C 1 0 K s1) (hG : G (if b = true then #[1, 0] else #[0, 1]) s1) : (PySem.W.kas_sort 2).kasWp C G s1 := by
  refine hc _ ?_
  cases b with
  | true => exact hG
  | false => exact hG
/-- list.sort of two tuples of ints, their first entries unlike -/
theorem sort_two {a x y : Addr} {n : Nat} {P : PySem.Fin → Shared → Prop} {k1 v1 k2 v2 : Int} {t1 u1 t2 u2 : Tok} (ho : s.heap.get? a = some (seqObj "list" [Value.ref x, Value.ref y].toArray n)) (hx : s.heap.get? x = some (tupI k1 v1 t1 u1)) (hy : s.heap.get? y = some (tupI k2 v2 t2 u2)) (hxa : x ≠ a) (hya : y ≠ a) (hne : k2 ≠ k1)
    (h : P (.done (.ret .none)) { s with heap := sortedHeap s.heap a [Value.ref x, Value.ref y] (if k2 < k1 then #[Value.ref y, Value.ref x] else #[Value.ref x, Value.ref y]) }) :
    wpAny (model prog w) A (Builtin.«list.sort» ⟨[.ref a], []⟩) P E s := by
  rw [list_sort_plain]
  have ha : a < s.heap.objs.size := Heap.lt_size ho
  refine wpAny_bind (listItems_at ho rfl ?_)
  refine wpAny_bind (listUpdate_at ho rfl ?_ (by show 2 ≤ sizeLine; decide) (Nat.zero_le _))
  obtain ⟨e1, ho1⟩ : ∃ e1, (s.heap.update a (Obj.mapSeq fun _ => #[])).get? a = some (seqObj "list" #[] e1) := ⟨_, get?_update_seq ho (fun _ => #[])⟩
  refine wpAny_bind (seqEpoch_at ho1 rfl ?_)
  refine wpAny_bind (wpAny_newTuple ?_ (by show 2 ≤ sizeLine; decide))
  refine wpAny_bind (wpAny_newList ?_ (Nat.zero_le _))
  refine wpAny_holding ?_
  have ho6 : (((s.heap.update a (Obj.mapSeq fun _ => #[])).push (seqObj "tuple" [Value.ref x, Value.ref y].toArray 0)).push (seqObj "list" #[] 0)).get? a = some (seqObj "list" #[] e1) := by
    rw [Heap.get?_push_ne _ _ _ (by rw [size_push', Heap.size_update]; exact Nat.ne_of_lt (Nat.lt_succ_of_lt ha)), Heap.get?_push_ne _ _ _ (by rw [Heap.size_update]; exact Nat.ne_of_lt ha)]
    exact ho1
  have oth : ∀ b o, b ≠ a → s.heap.get? b = some o → (((s.heap.update a (Obj.mapSeq fun _ => (#[] : Array Value))).push (seqObj "tuple" [Value.ref x, Value.ref y].toArray 0)).push (seqObj "list" #[] 0)).get? b = some o := fun b o hb e =>
    Heap.get?_push_of_some _ (Heap.get?_push_of_some _ ((Heap.get?_update_other _ _ (Ne.symm hb)).trans e))
  have hx6 := oth x _ hxa hx
  have hy6 := oth y _ hya hy
  show wpAny (model prog w) A _ P E { s with heap := ((s.heap.update a (Obj.mapSeq fun _ => #[])).push (seqObj "tuple" [Value.ref x, Value.ref y].toArray 0)).push (seqObj "list" #[] 0) }
  dsimp only
  have hn2 : ¬ [Value.ref x, Value.ref y].toArray.size < 2 := by simp
  rw [if_neg hn2, if_neg hn2]
  refine wpAny_bind (PySem.W.kat_kind (vs := [.ref x, .ref y]) (fs := [.int k1 t1, .int k2 t2]) (T := .type "int") (.cons hx6 rfl rfl rfl (.cons hy6 rfl rfl rfl .nil)) (by show 0 < 2; decide) (fun v hv => ?_) rfl ?_)
  · rcases List.mem_cons.mp hv with rfl | hv
    · exact PySem.W.Looks.of_pure rfl
    · rw [List.mem_singleton.mp hv]; exact PySem.W.Looks.of_pure rfl
  refine wpAny_bind (wpAny_mono (PySem.W.kat_run (ks := [Value.ref x, Value.ref y]) (vs := [Value.ref x, Value.ref y]) (G := fun p s' => p = (if decide (k2 < k1) = true then #[1, 0] else #[0, 1]) ∧ s' = { s with heap := ((s.heap.update a (Obj.mapSeq fun _ => (#[] : Array Value))).push (seqObj "tuple" [Value.ref x, Value.ref y].toArray 0)).push (seqObj "list" #[] 0) })
    (Q := fun st' s' => (∃ p : Array Nat, p = (if decide (k2 < k1) = true then #[1, 0] else #[0, 1]) ∧ arrOf st' = p.map (PySem.W.kas_item ([Value.ref x, Value.ref y].toArray.zip [Value.ref x, Value.ref y].toArray)) ∧ failedOf st' = none) ∧ s' = { s with heap := ((s.heap.update a (Obj.mapSeq fun _ => (#[] : Array Value))).push (seqObj "tuple" [Value.ref x, Value.ref y].toArray 0)).push (seqObj "list" #[] 0) })
    rfl (by show 2 ≤ 2; decide) (by show 2 < 64; decide) (fun p st' s' _ a2 a3 a4 => ⟨⟨p, a4.1, a2, a3⟩, a4.2⟩) (kas_two _ _ (decide (k2 < k1)) _ (fun K hK => ?_) ⟨rfl, rfl⟩)) ?_ fun _ _ e => e)
  · show wpAny (model prog w) A (keyLt' (tuples' true) (.ref y) (.ref x)) K (fun _ _ => False) _
    refine PySem.W.kat_lt hy6 rfl hx6 rfl ?_
    show wpAny (model prog w) A (eqBool (.int k2 t2) (.int k1 t1)) _ _ _
    refine wpAny_eqBool_int ?_
    have e : (k2 == k1) = false := by simpa using hne
    rw [e]
    show wpAny (model prog w) A (oneLt' (true && 0 == 0) (.int k2 t2) (.int k1 t1)) K _ _
    exact oneLt_int hK
  · rintro ⟨⟨⟩, st'⟩ s' ⟨⟨p, hp, har, hf⟩, rfl⟩
    dsimp only
    have hout := PySem.W.kat_snds (ks := [Value.ref x, Value.ref y]) (vs := [Value.ref x, Value.ref y]) rfl har
    rw [hout]
    have eo : List.toArray (p.toList.map fun i => [Value.ref x, Value.ref y].getD i Value.none) = (if k2 < k1 then #[Value.ref y, Value.ref x] else #[Value.ref x, Value.ref y]) := by
      rw [hp]
      by_cases z : k2 < k1 <;> simp [z]
    rw [eo]
    refine wpAny_bind (seqEpoch_at ho6 rfl ?_)
    refine wpAny_bind (listUpdate_at ho6 rfl ?_ (Nat.zero_le _) (by split <;> (show 2 ≤ sizeLine + 1; decide)))
    rw [hf]
    simp only [bne_self_eq_false, Bool.false_eq_true, if_false]
    exact wpAny_pure h
end
end L2

end

section
set_option Elab.async false
set_option linter.all false
set_option maxRecDepth 100000
set_option autoImplicit false
set_option maxHeartbeats 4000000
namespace L2
open PySem PySem.Spec PyProof.Rows HT Cb
section
variable {prog : Program} {w : World} {A : Around} {E : Value → Shared → Prop} {s : Shared}
/-- list.sort of none or one -/
theorem sort_few {a : Addr} {vs : List Value} {n : Nat} {P : PySem.Fin → Shared → Prop} (ho : s.heap.get? a = some (seqObj "list" vs.toArray n)) (hf : vs.length < 2)
    (h : P (.done (.ret .none)) { s with heap := sortedHeap s.heap a vs vs.toArray }) : wpAny (model prog w) A (Builtin.«list.sort» ⟨[.ref a], []⟩) P E s := by
  rw [list_sort_plain]
  have ha : a < s.heap.objs.size := Heap.lt_size ho
  have hz : vs.length ≤ sizeLine := Nat.le_trans (Nat.le_of_lt hf) (by decide)
  refine wpAny_bind (listItems_at ho rfl ?_)
  refine wpAny_bind (listUpdate_at ho rfl ?_ (by rw [List.size_toArray]; exact hz) (Nat.zero_le _))
  obtain ⟨e1, ho1⟩ : ∃ e1, (s.heap.update a (Obj.mapSeq fun _ => #[])).get? a = some (seqObj "list" #[] e1) := ⟨_, get?_update_seq ho (fun _ => #[])⟩
  refine wpAny_bind (seqEpoch_at ho1 rfl ?_)
  refine wpAny_bind (wpAny_newTuple ?_ hz)
  refine wpAny_bind (wpAny_newList ?_ (Nat.zero_le _))
  refine wpAny_holding ?_
  have ho6 : (((s.heap.update a (Obj.mapSeq fun _ => #[])).push (seqObj "tuple" vs.toArray 0)).push (seqObj "list" #[] 0)).get? a = some (seqObj "list" #[] e1) := by
    rw [Heap.get?_push_ne _ _ _ (by rw [size_push', Heap.size_update]; exact Nat.ne_of_lt (Nat.lt_succ_of_lt ha)), Heap.get?_push_ne _ _ _ (by rw [Heap.size_update]; exact Nat.ne_of_lt ha)]
    exact ho1
  show wpAny (model prog w) A _ P E { s with heap := ((s.heap.update a (Obj.mapSeq fun _ => #[])).push (seqObj "tuple" vs.toArray 0)).push (seqObj "list" #[] 0) }
  dsimp only
  have h2 : vs.toArray.size < 2 := by rw [List.size_toArray]; exact hf
  rw [if_pos h2, if_pos h2]
  refine wpAny_bind (wpAny_pure ?_)
  rw [StateT.run_pure]
  refine wpAny_bind (wpAny_pure ?_)
  dsimp only
  have eo : (arrOf (SortSt.mk' general' (vs.toArray.zip vs.toArray) #[] 7 none)).map (·.2) = vs.toArray := by
    show (vs.toArray.zip vs.toArray).map (·.2) = vs.toArray
    apply Array.ext
    · simp
    · intro i h1 h2; simp
  rw [eo]
  refine wpAny_bind (seqEpoch_at ho6 rfl ?_)
  refine wpAny_bind (listUpdate_at ho6 rfl ?_ (Nat.zero_le _) (by show vs.toArray.size ≤ sizeLine + 1; rw [List.size_toArray]; omega))
  show wpAny (model prog w) A _ P E _
  simp only [bne_self_eq_false, Bool.false_eq_true, if_false]
  exact wpAny_pure h
end
/-! ### sorted(d.items()), two entries at most -/
def srt2 : List (Int × Int) → List (Int × Int)
  | [x, y] => if y.1 < x.1 then [y, x] else [x, y]
  | l => l
def knV (kn : List (Int × Int)) : List (Key × V) := kn.map fun q => (Sum.inl q.1, V.int q.2)
theorem pair_at {P : Program} {w : World} {kn : List (Int × Int)} {vs : List (Key × Value)} {lo : Addr} {h : Heap} {as : List Addr} (rel : KV (knV kn) vs) (g : PySem.W.KdxG (mixKind P w) vs lo h as) {j : Nat} {b : Addr} {q : Int × Int} (hb : as[j]? = some b) (hq : kn[j]? = some q) :
    ∃ t u, h.get? b = some (tupI q.1 q.2 t u) := by
  obtain ⟨key, k, x, hx, hkey, hg⟩ := g.pairs j b hb
  obtain ⟨y, hy, ry⟩ := kv_get rel j k x hx
  have e1 : (knV kn)[j]? = some (Sum.inl q.1, V.int q.2) := by unfold knV; rw [List.getElem?_map, hq]; rfl
  rw [e1] at hy
  cases hy
  obtain ⟨u, rfl⟩ := (show ∃ u, x = Value.int q.2 u from ry)
  rcases keyIs_shape (show keyIs (Sum.inl q.1) key = true from hkey) with ⟨i, t, e2, e3⟩ | ⟨_, _, e2, _⟩
  · cases e2; subst e3; exact ⟨t, u, hg⟩
  · cases e2
section
variable {X : Cx}
theorem call_sortedI (hc : X.calm = true) : CallR X (.builtin "sorted") (fun xs H Q => ∃ (p a : Addr) (kn : List (Int × Int)), xs = [.ref p] ∧ H p = some (.ext (vwD p a)) ∧ H a = some (.dK (knV kn)) ∧ kn.length ≤ 2 ∧ (kn.map (·.1)).Nodup ∧
    ∀ (l : Addr) (ts : List Addr) (H' : Hp), ts.length = kn.length → H l = none → Same H H' → H' l = some (.lst (ts.map V.ref)) → (∀ (j : Nat) (t : Addr) (q : Int × Int), ts[j]? = some t → (srt2 kn)[j]? = some q → H t = none ∧ H' t = some (.tup [.int q.1, .int q.2])) → Q (.ref l) H') := by
  intro pins s σ H xs us Q I r h
  obtain ⟨p, a, kn, rfl, ep, e, h2, nd, q⟩ := h
  obtain ⟨u, rfl, r1⟩ := vals1 r
  obtain rfl : u = Value.ref p := r1
  obtain ⟨hv, _, _⟩ := (show ObjOk X.prog X.w H s.heap p (.ext (vwD p a)) from I.hok p _ ep)
  obtain ⟨hz, lo, vs, rel, dd⟩ := dk_of I.hok e
  obtain ⟨epc, hat⟩ := dd.dictAt
  have hl : vs.length = kn.length := by rw [kv_length rel]; unfold knV; rw [List.length_map]
  have hlz : vs.length ≤ sizeLine := by rw [hl]; exact Nat.le_trans h2 (by decide)
  refine sorted_by (PySem.W.kdx_collect (knd := mixKind X.prog X.w) (kvs := vs) (ep := epc) (I.ok.hd hc) hv hat hlz fun h' tk as kp hla hG => ⟨by rw [List.length_map, hla]; exact hlz, ?_⟩)
  have I2 : Inv X pins σ H { s with heap := h', toks := tk } := I.kept kp
  have hsz : h'.objs.size < (h'.push (seqObj "list" (as.map Value.ref).toArray 0)).objs.size := by rw [Heap.size_push]; exact Nat.lt_succ_self _
  have hoL : (h'.push (seqObj "list" (as.map Value.ref).toArray 0)).get? h'.objs.size = some (seqObj "list" (as.map Value.ref).toArray 0) := Heap.get?_push_size _ rfl
  have kpF : ∀ (out : Array Value) b o, h'.get? b = some o → (sortedHeap (h'.push (seqObj "list" (as.map Value.ref).toArray 0)) h'.objs.size (as.map Value.ref) out).get? b = some o := fun out b o eb => by
    have hb := Heap.lt_size eb
    rw [sortedHeap_old (Nat.ne_of_lt hb) (Nat.lt_trans hb hsz)]
    exact Heap.get?_push_of_some _ eb
  have frs : ∀ b ∈ as, s.heap.objs.size ≤ b := fun b hb => Nat.le_of_lt (hG.above b hb)
  have hlk : as.length = kn.length := by rw [hla, hl]
  have lst : ∀ (out : List Addr) (H2 : Hp) (I3 : Inv X pins σ H2 { s with heap := h', toks := tk }), out.length ≤ 2 → Inv X pins σ (upd H2 h'.objs.size (.lst (out.map V.ref))) { s with heap := sortedHeap (h'.push (seqObj "list" (as.map Value.ref).toArray 0)) h'.objs.size (as.map Value.ref) (out.map Value.ref).toArray, toks := tk } := fun out H2 I3 ho => by
    obtain ⟨c, hc'⟩ := sortedHeap_at (a := h'.objs.size) (vs := as.map Value.ref) (out := (out.map Value.ref).toArray) hoL
    refine I3.laid (t' := tk) (o := .lst (out.map V.ref)) (kpF _) (Nat.le_refl _) ⟨?_, out.map Value.ref, _, ?_, by simpa [seqObj] using hc'⟩
    · rw [List.length_map]; exact Nat.le_trans ho (by decide)
    · clear hc' ho
      induction out with
      | nil => exact .nil
      | cons b r ih => exact .cons rfl ih
  match kn, as, hlk, h2, nd, rel, hG, lst, q, frs with
  | [], [], _, _, _, _, _, lst, q, _ =>
    refine sort_few (s := { s with heap := h'.push (seqObj "list" _ 0), toks := tk }) hoL (by show 0 < 2; decide) ⟨rfl, ?_⟩
    exact ⟨.ref _, _, lst [] H I2 (by decide), rfl, q _ [] _ rfl (I2.hok.fresh (Nat.le_refl _)) (same_new (I2.hok.fresh (Nat.le_refl _))) upd_same fun j t qq e1 _ => by simp at e1⟩
  | [q1], [b], _, _, _, rel, hG, lst, q, frs =>
    obtain ⟨t1, u1, g1⟩ := pair_at rel hG (j := 0) (b := b) (q := q1) rfl rfl
    have fb : H b = none := I.hok.fresh (frs b (by simp))
    have I3 := I2.track (o := .tup [.int q1.1, .int q1.2]) (I.fpOk (frs b (by simp)) fb) (Nat.le_trans I.sz (frs b (by simp))) (tup2_ok ⟨_, rfl⟩ ⟨_, rfl⟩ g1)
    refine sort_few (s := { s with heap := h'.push (seqObj "list" _ 0), toks := tk }) hoL (by show 1 < 2; decide) ⟨rfl, ?_⟩
    have fl : (upd H b (.tup [.int q1.1, .int q1.2])) h'.objs.size = none := I3.hok.fresh (Nat.le_refl _)
    refine ⟨.ref _, _, lst [b] _ I3 (by show 1 ≤ 2; decide), rfl, q _ [b] _ rfl (I2.hok.fresh (Nat.le_refl _)) ((same_new fb).trans (same_new fl)) upd_same fun j t qq e1 e2 => ?_⟩
    match j, e1, e2 with
    | 0, e1, e2 =>
      cases e1; cases e2
      exact ⟨fb, same_new fl _ _ upd_same⟩
    | j + 1, e1, _ => simp at e1
  | [q1, q2], [b, d], _, _, nd, rel, hG, lst, q, frs =>
    obtain ⟨t1, u1, g1⟩ := pair_at rel hG (j := 0) (b := b) (q := q1) rfl rfl
    obtain ⟨t2, u2, g2⟩ := pair_at rel hG (j := 1) (b := d) (q := q2) rfl rfl
    have hbd : b ≠ d := by
      have := hG.rise
      have h3 : b < d := by simpa using this
      exact Nat.ne_of_lt h3
    have fb : H b = none := I.hok.fresh (frs b (by simp))
    have fd : H d = none := I.hok.fresh (frs d (by simp))
    have fd' : (upd H b (.tup [.int q1.1, .int q1.2])) d = none := by rw [upd_ne (Ne.symm hbd)]; exact fd
    have I3 := I2.track (o := .tup [.int q1.1, .int q1.2]) (I.fpOk (frs b (by simp)) fb) (Nat.le_trans I.sz (frs b (by simp))) (tup2_ok ⟨_, rfl⟩ ⟨_, rfl⟩ g1)
    have I4 := I3.track (o := .tup [.int q2.1, .int q2.2]) (I.fpOk (frs d (by simp)) fd') (Nat.le_trans I.sz (frs d (by simp))) (tup2_ok ⟨_, rfl⟩ ⟨_, rfl⟩ g2)
    have fl : (upd (upd H b (.tup [.int q1.1, .int q1.2])) d (.tup [.int q2.1, .int q2.2])) h'.objs.size = none := I4.hok.fresh (Nat.le_refl _)
    have sm := (same_new fb).trans ((same_new (o := .tup [.int q2.1, .int q2.2]) fd').trans (same_new (o := .lst ([b, d].map V.ref)) fl))
    have hlb := Heap.lt_size g1
    have hld := Heap.lt_size g2
    have hne : q2.1 ≠ q1.1 := by
      have : ¬ q1.1 = q2.1 := by simpa using nd
      exact fun z => this z.symm
    refine sort_two (s := { s with heap := h'.push (seqObj "list" _ 0), toks := tk }) (x := b) (y := d) hoL (Heap.get?_push_of_some _ g1) (Heap.get?_push_of_some _ g2) (Nat.ne_of_lt hlb) (Nat.ne_of_lt hld) hne ⟨rfl, ?_⟩
    have hb9 : ∀ o, upd (upd (upd H b (.tup [.int q1.1, .int q1.2])) d (.tup [.int q2.1, .int q2.2])) h'.objs.size o b = some (.tup [.int q1.1, .int q1.2]) := fun o => same_new fl _ _ (by rw [upd_ne hbd]; exact upd_same)
    have hd9 : ∀ o, upd (upd (upd H b (.tup [.int q1.1, .int q1.2])) d (.tup [.int q2.1, .int q2.2])) h'.objs.size o d = some (.tup [.int q2.1, .int q2.2]) := fun o => same_new fl _ _ upd_same
    by_cases z : q2.1 < q1.1
    · rw [if_pos z]
      refine ⟨.ref _, _, lst [d, b] _ I4 (by show 2 ≤ 2; decide), rfl, q _ [d, b] _ rfl (I2.hok.fresh (Nat.le_refl _)) ((same_new fb).trans ((same_new fd').trans (same_new fl))) upd_same fun j t qq e1 e2 => ?_⟩
      rw [show srt2 [q1, q2] = [q2, q1] from if_pos z] at e2
      match j, e1, e2 with
      | 0, e1, e2 => cases e1; cases e2; exact ⟨fd, hd9 _⟩
      | 1, e1, e2 => cases e1; cases e2; exact ⟨fb, hb9 _⟩
      | j + 2, e1, _ => simp at e1
    · rw [if_neg z]
      refine ⟨.ref _, _, lst [b, d] _ I4 (by show 2 ≤ 2; decide), rfl, q _ [b, d] _ rfl (I2.hok.fresh (Nat.le_refl _)) ((same_new fb).trans ((same_new fd').trans (same_new fl))) upd_same fun j t qq e1 e2 => ?_⟩
      rw [show srt2 [q1, q2] = [q1, q2] from if_neg z] at e2
      match j, e1, e2 with
      | 0, e1, e2 => cases e1; cases e2; exact ⟨fb, hb9 _⟩
      | 1, e1, e2 => cases e1; cases e2; exact ⟨fd, hd9 _⟩
      | j + 2, e1, _ => simp at e1
end
end L2

end

section
set_option Elab.async false
set_option linter.all false
set_option autoImplicit false
set_option maxRecDepth 100000
set_option maxHeartbeats 4000000
namespace L2
open PySem PySem.Spec PyProof.Rows HT Cb
/-! ### min of a list of tuples of ints -/
/-- tuples of ints stand where the list's things are -/
def TupsI (h : Heap) (items : Array Value) (nss : Nat → List Int) : Prop := ∀ (i : Nat) (v : Value), items[i]? = some v → ∃ (t : Addr) (its : Array Value), v = .ref t ∧ IsTup h t its ∧ IntsAre its.toList (nss i)
theorem TupsI.kept {h h' : Heap} {items : Array Value} {nss : Nat → List Int} (x : TupsI h items nss) {bad : List Addr} (hb : ∀ b ∈ bad, ∀ o, h.get? b = some o → o.cls ≠ .type "tuple") (k : ∀ b o, b ∉ bad → h.get? b = some o → h'.get? b = some o) : TupsI h' items nss := fun i v e => by
  obtain ⟨t, its, rfl, ⟨o, ho, hc, r⟩, hI⟩ := x i v e
  exact ⟨t, its, rfl, ⟨o, k t o (fun z => hb t z o ho hc) ho, hc, r⟩, hI⟩
section
variable {prog : Program} {w : World} {A : Around} {E : Value → Shared → Prop}
/-- one look at the best so far and what is left of the list -/
theorem min_rest {l I S : Addr} {items : Array Value} {nss : Nat → List Int} (hh : A.handled = none) (hu : A.in1.units < cLine) (hlI : l ≠ I) (hSl : S ≠ l) (hSI : S ≠ I) {R : Result → Shared → Prop} :
    ∀ (k j : Nat) (s : Shared) (vb : Value) (c : Nat), items.size - (j + 1) = k → j + 1 ≤ items.size → s.heap.IsListIter I l (j + 1) → s.heap.IsList l items → TupsI s.heap items nss →
    items[argBest (fun i j => lexLt (nss i) (nss j)) j]? = some vb → s.heap.get? S = some { cls := .type "list", dict := none, data := .seq #[vb, vb] c, slots := #[] } →
    (∀ v h' tk, items[argBest (fun i j => lexLt (nss i) (nss j)) (items.size - 1)]? = some v → (∀ b o, b ≠ I → b ≠ S → s.heap.get? b = some o → h'.get? b = some o) → R (.ok (.ret v)) { s with heap := h', toks := tk }) →
    codeAny (model prog w) A (.builtin "min.loop" ⟨[.ref I, .none, .ref S], []⟩) R s := by
  have hname : (toString "min" ++ toString ".loop" : String) = "min.loop" := by decide
  have W := Walks.list (prog := prog) (w := w) (A := A.in1) hh I l hlI items
  intro k
  induction k with
  | zero =>
    intro j s vb c hk hj hi hl ht hb hS hR
    have hin : j + 1 = items.size := by omega
    refine codeAny_builtin F.entry_min_loop ?_
    rw [Around.under_plainId F.plain_min_loop _]
    show wpAny _ A.in1 (seqItems? (.ref S) >>= _) _ _ s
    refine wpAny_bind (wpAny_seqItems hS rfl ?_)
    show wpAny _ A.in1 (tryCatch (pyNext (.ref I)) _ >>= _) _ _ s
    refine wpAny_bind (wpAny_tryCatch (W.done s _ _ (by rw [← hin]; exact ⟨hi, hl⟩) fun h' tk hk' => ?_))
    have hS' := hk' S _ (by simp [hSI]) hS
    show wpAny _ A.in1 (updateSeq S (fun _ => #[]) >>= _) _ _ _
    refine wpAny_bind (wpAny_updateSeq hS' rfl (wpAny_bind (wpAny_letGo (wpAny_pure ?_))))
    refine hR vb _ tk (by rw [← hin]; exact hb) fun b o hbI hbS e => (Heap.get?_update_other _ _ (Ne.symm hbS)).trans (hk' b o (by simp [hbI]) e)
  | succ k ih =>
    intro j s vb c hk hj hi hl ht hb hS hR
    have hlt : j + 1 < items.size := by omega
    refine codeAny_builtin F.entry_min_loop ?_
    rw [Around.under_plainId F.plain_min_loop _]
    show wpAny _ A.in1 (seqItems? (.ref S) >>= _) _ _ s
    refine wpAny_bind (wpAny_seqItems hS rfl ?_)
    show wpAny _ A.in1 (tryCatch (pyNext (.ref I)) _ >>= _) _ _ s
    refine wpAny_bind (wpAny_tryCatch (W.item (j + 1) s _ _ hlt ⟨hi, hl⟩ fun v h' tk hP hst' hk' => ?_))
    have hS' := hk' S _ (by simp [hSI]) hS
    have ht' : TupsI h' items nss := ht.kept (bad := [I]) (fun b hb o e => by
      rw [List.mem_singleton.mp hb] at e
      obtain ⟨oi, ei, ci, _⟩ := hi
      rw [ei] at e; cases e; rw [ci]; decide) fun b o hb e => hk' b o hb e
    show wpAny _ A.in1 (tryCatch (holding [v, v] (richCompare .Lt v vb >>= _)) _ >>= _) _ _ _
    obtain ⟨t1, i1, rfl, p1, n1⟩ := ht' _ _ hP
    obtain ⟨t2, i2, rfl, p2, n2⟩ := ht' _ _ hb
    refine wpAny_bind (wpAny_tryCatch (wpAny_holding (wpAny_bind (HT.lt_tupInts (s := { s with heap := h', toks := tk }) p1 p2 n1 n2 hu ?_))))
    refine wpAny_bind (wpAny_holding (wpAny_truthy_bool ?_))
    refine wpAny_bind (wpAny_letGo (wpAny_pure ?_))
    have nbS : ∀ b ∈ [S], ∀ o, h'.get? b = some o → o.cls ≠ .type "tuple" := fun b hb o e => by
      rw [List.mem_singleton.mp hb, hS'] at e; cases e; show Value.type "list" ≠ Value.type "tuple"; decide
    cases hbt : lexLt (nss (j + 1)) (nss (argBest (fun i j => lexLt (nss i) (nss j)) j)) with
    | true =>
      simp only [if_true]
      refine wpAny_bind (wpAny_updateSeq hS' rfl (wpAny_bind (wpAny_letGo ?_)))
      rw [hname]
      have oth : ∀ b o, b ≠ S → h'.get? b = some o → (h'.update S (Obj.mapSeq fun _ => #[Value.ref t1, Value.ref t1])).get? b = some o := fun b o hb e => (Heap.get?_update_other _ _ (Ne.symm hb)).trans e
      refine wpAny_pure ⟨plainId_quiet F.plain_min_loop _, ih (j + 1) _ (.ref t1) _ (by omega) hlt (hst'.1.at fun o e => oth _ o (Ne.symm hSI) e) (hst'.2.at fun o e => oth _ o (Ne.symm hSl) e) (ht'.kept nbS fun b o hb e => oth b o (by simpa using hb) e)
        (by simp only [argBest, hbt, if_true]; exact hP) (Heap.get?_update_self _ hS' rfl) fun v' h'' tk'' hP' hk'' => ?_⟩
      exact hR v' h'' tk'' hP' fun b o hbI hbS e => hk'' b o hbI hbS (oth b o hbS (hk' b o (by simp [hbI]) e))
    | false =>
      simp only [Bool.false_eq_true, if_false]
      refine wpAny_bind (wpAny_letGo ?_)
      rw [hname]
      refine wpAny_pure ⟨plainId_quiet F.plain_min_loop _, ih (j + 1) _ (.ref t2) c (by omega) hlt hst'.1 hst'.2 ht' (by simp only [argBest, hbt, Bool.false_eq_true, if_false]; exact hb) hS' fun v' h'' tk'' hP' hk'' => ?_⟩
      exact hR v' h'' tk'' hP' fun b o hbI hbS e => hk'' b o hbI hbS (hk' b o (by simp [hbI]) e)
theorem call_min_tups {s : Shared} {l : Addr} {items : Array Value} {nss : Nat → List Int} {Q : Value → Shared → Prop} (hh : A.handled = none) (hu : A.units + 1 < cLine) (hl : s.heap.IsList l items) (ht : TupsI s.heap items nss) (hn : 0 < items.size)
    (h : ∀ v h' tk, items[argBest (fun i j => lexLt (nss i) (nss j)) (items.size - 1)]? = some v → (∀ b o, s.heap.get? b = some o → h'.get? b = some o) → Q v { s with heap := h', toks := tk }) :
    wpAny (model prog w) A (call (.builtin "min") [.ref l]) Q E s := by
  have hname : (toString "min" ++ toString ".loop" : String) = "min.loop" := by decide
  refine call_function_tree F.kind_min F.plain_min F.entry_min (F.args_min1 _) ?_
  show wpAny _ A.in1 (Builtin.Builtins.bindParams "min" ["key", "default"] 0 ⟨[], []⟩ >>= _) _ _ s
  refine wpAny_bind (wpAny_of_eq (show Builtin.Builtins.bindParams "min" ["key", "default"] 0 ⟨[], []⟩ = pure [none, none] from rfl) ?_)
  refine wpAny_bind (wpAny_pure ?_)
  have hlt : l < s.heap.objs.size := by obtain ⟨_, e, _⟩ := hl; exact Heap.lt_size e
  refine wpAny_bind (wpAny_pyIter_list hl ?_)
  refine wpAny_bind (wpAny_newObj_type ?_)
  rw [hname]
  obtain ⟨h2, e2⟩ : ∃ h2, h2 = (s.heap.push { cls := .type "list_iterator", data := .fields #[.ref l, .int 0 0] }).push { cls := .type "list", data := .seq ([] : List Value).toArray } := ⟨_, rfl⟩
  have kp : ∀ b o, s.heap.get? b = some o → h2.get? b = some o := fun b o e => by rw [e2]; exact Heap.get?_push_of_some _ (Heap.get?_push_of_some _ e)
  have hsz : (s.heap.push { cls := .type "list_iterator", data := .fields #[.ref l, .int 0 0] }).objs.size = s.heap.objs.size + 1 := Heap.size_push ..
  have hI : h2.IsListIter s.heap.objs.size l 0 := ⟨_, by rw [e2]; exact Heap.get?_push_of_some _ (Heap.get?_push_size _ rfl), rfl, rfl⟩
  have hS : h2.get? (s.heap.objs.size + 1) = some { cls := .type "list", dict := none, data := .seq #[] 0, slots := #[] } := by rw [e2, ← hsz]; exact Heap.get?_push_size _ rfl
  have hl2 : h2.IsList l items := hl.at fun o e => kp l o e
  have ht2 : TupsI h2 items nss := ht.kept (bad := []) (fun b hb => nomatch hb) fun b o _ e => kp b o e
  show wpAny _ A.in1 (again (.builtin "min.loop" ⟨[.ref s.heap.objs.size, .none, .ref (s.heap.push _).objs.size], []⟩)) _ _ { s with heap := _ }
  rw [hsz]
  refine wpAny_pure ⟨plainId_quiet F.plain_min_loop _, ?_⟩
  have key : codeAny (model prog w) A (.builtin "min.loop" ⟨[.ref s.heap.objs.size, .none, .ref (s.heap.objs.size + 1)], []⟩) (fun r s' => match r with
      | Except.ok (Flow.ret v) => Q v s'
      | Except.ok a => False
      | Except.error e => E e s') { s with heap := h2 } := by
    have hlI : l ≠ s.heap.objs.size := Nat.ne_of_lt hlt
    have hSI : s.heap.objs.size + 1 ≠ s.heap.objs.size := Nat.succ_ne_self _
    have hSl : s.heap.objs.size + 1 ≠ l := Nat.ne_of_gt (Nat.lt_succ_of_lt hlt)
    have W := Walks.list (prog := prog) (w := w) (A := A.in1) hh s.heap.objs.size l hlI items
    refine codeAny_builtin F.entry_min_loop ?_
    rw [Around.under_plainId F.plain_min_loop _]
    show wpAny _ A.in1 (seqItems? (.ref (s.heap.objs.size + 1)) >>= _) _ _ _
    refine wpAny_bind (wpAny_seqItems hS rfl ?_)
    show wpAny _ A.in1 (tryCatch (pyNext (.ref s.heap.objs.size)) _ >>= _) _ _ _
    refine wpAny_bind (wpAny_tryCatch (W.item 0 _ _ _ hn ⟨hI, hl2⟩ fun v h' tk hP hst' hk' => ?_))
    have hS' := hk' (s.heap.objs.size + 1) _ (by simp) hS
    have ht' : TupsI h' items nss := ht2.kept (bad := [s.heap.objs.size]) (fun b hb o e => by
      rw [List.mem_singleton.mp hb] at e
      obtain ⟨oi, ei, ci, _⟩ := hI
      rw [ei] at e; cases e; rw [ci]; decide) fun b o hb e => hk' b o hb e
    have nbS : ∀ b ∈ [s.heap.objs.size + 1], ∀ o, h'.get? b = some o → o.cls ≠ .type "tuple" := fun b hb o e => by
      rw [List.mem_singleton.mp hb, hS'] at e; cases e; show Value.type "list" ≠ Value.type "tuple"; decide
    show wpAny _ A.in1 (updateSeq (s.heap.objs.size + 1) (fun _ => #[v, v]) >>= _) _ _ _
    refine wpAny_bind (wpAny_updateSeq hS' rfl ?_)
    rw [hname]
    have oth : ∀ b o, b ≠ s.heap.objs.size + 1 → h'.get? b = some o → (h'.update (s.heap.objs.size + 1) (Obj.mapSeq fun _ => #[v, v])).get? b = some o := fun b o hb e => (Heap.get?_update_other _ _ (Ne.symm hb)).trans e
    refine wpAny_pure ⟨plainId_quiet F.plain_min_loop _, min_rest (l := l) (items := items) (nss := nss) hh hu hlI hSl hSI _ 0 _ v _ rfl hn (hst'.1.at fun o e => oth _ o (Ne.symm hSI) e) (hst'.2.at fun o e => oth _ o (Ne.symm hSl) e) (ht'.kept nbS fun b o hb e => oth b o (by simpa using hb) e) hP (Heap.get?_update_self _ hS' rfl) fun v' h'' tk'' hP' hk'' => ?_⟩
    refine h v' h'' tk'' hP' fun b o e => ?_
    have hb := Heap.lt_size e
    exact hk'' b o (Nat.ne_of_lt hb) (Nat.ne_of_lt (Nat.lt_succ_of_lt hb)) (oth b o (Nat.ne_of_lt (Nat.lt_succ_of_lt hb)) (hk' b o (fun z => Nat.ne_of_lt hb (List.mem_singleton.mp z)) (kp b o e)))
  rw [e2] at key
  exact key
end
section
variable {X : Cx}
theorem call_minT (hc : X.calm = true) (hu : X.A.units + 1 < cLine) : CallR X (.builtin "min") (fun xs H Q => ∃ (a : Addr) (ts : List Addr) (nss : List (List Int)), xs = [.ref a] ∧ H a = some (.lst (ts.map V.ref)) ∧ 0 < ts.length ∧ ts.length = nss.length ∧ (∀ (j : Nat) (t : Addr) (ns : List Int), ts[j]? = some t → nss[j]? = some ns → H t = some (.tup (ns.map V.int))) ∧
    ∀ t : Addr, ts[argBest (fun i j => lexLt (nss.getD i []) (nss.getD j [])) (ts.length - 1)]? = some t → Q (.ref t) H) := by
  intro pins s σ H xs us Q I r h
  obtain ⟨a, ts, nss, rfl, e, h0, hl, ht, q⟩ := h
  obtain ⟨u, rfl, r1⟩ := vals1 r
  obtain rfl : u = Value.ref a := r1
  obtain ⟨its, rv, pl, hz⟩ := I.list (SqL.of e)
  have ei : its = ts.map Value.ref := by
    clear pl hz e ht q h0 hl
    induction ts generalizing its with
    | nil => cases rv; rfl
    | cons t r ih =>
      cases rv with
      | cons h1 h2 => rw [ih _ h2, show _ = Value.ref t from h1]; rfl
  have hlen : its.toArray.size = ts.length := by rw [List.size_toArray, ei, List.length_map]
  refine call_min_tups (items := its.toArray) (nss := fun i => nss.getD i []) (I.ok.hd hc) hu pl.isList (fun i v hv => ?_) (by omega) fun v h' tk hv kp => ?_
  · have hv' : its[i]? = some v := by simpa using hv
    rw [ei, List.getElem?_map] at hv'
    obtain ⟨t, h1, rfl⟩ := Option.map_eq_some_iff.mp hv'
    have hi : i < nss.length := by rw [← hl]; exact (List.getElem?_eq_some_iff.mp h1).1
    have h2 : nss[i]? = some (nss.getD i []) := by rw [List.getElem?_eq_getElem hi]; simp [hi]
    obtain ⟨its2, r2, p2, _⟩ := I.tuple (SqT.of (ht i t _ h1 h2))
    exact ⟨t, _, rfl, p2, intsAre_of r2⟩
  · rw [hlen] at hv
    have hv' : its[argBest (fun i j => lexLt (nss.getD i []) (nss.getD j [])) (ts.length - 1)]? = some v := by simpa using hv
    rw [ei, List.getElem?_map] at hv'
    obtain ⟨t, h1, rfl⟩ := Option.map_eq_some_iff.mp hv'
    exact ⟨.ref t, H, I.kept kp, rfl, q t h1⟩
end
end L2

end

section
set_option Elab.async false
set_option linter.all false
set_option maxRecDepth 100000
set_option maxHeartbeats 4000000
namespace L2
open PySem PySem.Spec PyProof.Rows
/-! ### zip of four lists -/
abbrev Quad (h : Heap) (T : Addr) (a b c d : Value) : Prop := h.get? T = some { cls := .type "tuple", data := .seq #[a, b, c, d] }
structure Far4 (z TO i1 i2 i3 i4 : Addr) : Prop where
  oz : TO ≠ z
  az : i1 ≠ z
  bz : i2 ≠ z
  cz : i3 ≠ z
  dz : i4 ≠ z
  oa : TO ≠ i1
  ob : TO ≠ i2
  oc : TO ≠ i3
  od : TO ≠ i4
  ab : i1 ≠ i2
  ac : i1 ≠ i3
  ad : i1 ≠ i4
  bc : i2 ≠ i3
  bd : i2 ≠ i4
  cd : i3 ≠ i4
/-- a list is none of the zip's own objects -/
structure FarL4 (z TO i1 i2 i3 i4 l : Addr) : Prop where
  z : l ≠ z
  o : l ≠ TO
  a : l ≠ i1
  b : l ≠ i2
  c : l ≠ i3
  d : l ≠ i4
section
variable {prog : Program} {w : World} {A : Around} {E : Value → Shared → Prop} {s : Shared}
end
abbrev w4A (h : Heap) (l : Addr) : Heap := h.push { cls := .type "list_iterator", data := .fields #[.ref l, .int 0 0] }
abbrev w4B (h : Heap) (l1 l2 l3 l4 : Addr) : Heap := (w4A (w4A (w4A (w4A h l1) l2) l3) l4).push { cls := .type "tuple", data := .seq #[.ref h.objs.size, .ref (w4A h l1).objs.size, .ref (w4A (w4A h l1) l2).objs.size, .ref (w4A (w4A (w4A h l1) l2) l3).objs.size] }
abbrev w4C (h : Heap) (l1 l2 l3 l4 : Addr) : Heap := (w4B h l1 l2 l3 l4).push { cls := .type "tuple", data := .seq #[.none, .none, .none, .none] }
abbrev w4D (h : Heap) (l1 l2 l3 l4 : Addr) : Heap := (w4C h l1 l2 l3 l4).push { cls := .type "zip", data := .fields #[.none, .bool false, .bool false, .ref (w4A (w4A (w4A (w4A h l1) l2) l3) l4).objs.size, .ref (w4B h l1 l2 l3 l4).objs.size] }
def Itz4 (K : PySem.W.Frag) (a b c d : Addr) : It :=
  ⟨fun i H => ∃ xs x ys y us u ts t, SqL K H a xs ∧ SqL K H b ys ∧ SqL K H c us ∧ SqL K H d ts ∧ xs[i]? = some x ∧ ys[i]? = some y ∧ us[i]? = some u ∧ ts[i]? = some t,
   fun i H v H' => ∃ T x y u t, H T = none ∧ v = .ref T ∧ H' = upd H T (.tup [x, y, u, t]) ∧ (∀ xs, SqL K H a xs → xs[i]? = some x) ∧ (∀ ys, SqL K H b ys → ys[i]? = some y) ∧ (∀ us, SqL K H c us → us[i]? = some u) ∧ ∀ ts, SqL K H d ts → ts[i]? = some t,
   fun i H => ∃ xs, SqL K H a xs ∧ xs.length ≤ i⟩
def iZip4 (K : PySem.W.Frag) (ta : TA) : TI := fun σ H R => ta σ H fun vs H1 => ∃ a b c d, vs = [.ref a, .ref b, .ref c, .ref d] ∧ (∃ xs, SqL K H1 a xs) ∧ (∃ ys, SqL K H1 b ys) ∧ (∃ us, SqL K H1 c us) ∧ (∃ ts, SqL K H1 d ts) ∧ R (Itz4 K a b c d) H1
end L2

end

section
set_option Elab.async false
set_option linter.all false
set_option maxRecDepth 100000
set_option maxHeartbeats 4000000
namespace L2
open PySem PySem.Spec PyProof.Rows PySem.SeqAt
/-! ### range(a, b, -1) -/
def Itd (hi : Int) (n : Nat) : It := ⟨fun i _ => i < n, fun i H x H' => H' = H ∧ x = .int (hi - i), fun i _ => n ≤ i⟩
section
variable {X : Cx} {tg : Expr}
def iRng3 (ta : TA) : TI := fun σ H R => ta σ H fun vs H1 => ∃ i j : Int, vs = [.int i, .int j, .int (-1)] ∧ Builtin.Range.small i j (-1) = true ∧ Builtin.divisionGoesByPylong (j - i) (-1) = false ∧ R (Itd i (i - j).toNat) H1
end
/-! ### tuples of numbers and tuples, equal part by part -/
inductive Eqv (K : PySem.W.Frag) (H : Hp) : Nat → V → V → Prop where
  | int (n : Nat) (i : Int) : Eqv K H n (.int i) (.int i)
  | tup {n : Nat} {a b : Addr} {xs ys : List V} (ha : SqT K H a xs) (hb : SqT K H b ys) (hl : xs.length = ys.length) (h : ∀ (i : Nat) (x y : V), xs[i]? = some x → ys[i]? = some y → Eqv K H n x y) : Eqv K H (n + 1) (.ref a) (.ref b)
theorem Eqv.eqAt {X : Cx} {pins : List (Addr × Obj)} {s : Shared} {σ : St} {H : Hp} (I : Inv X pins σ H s) {n : Nat} {x y : V} (h : Eqv X.K H n x y) : ∀ (A : Around) {u v : Value}, A.units + n < cLine → RelV x u → RelV y v → EqAt A s u v true := by
  induction h with
  | int n i =>
    intro A u v _ r1 r2
    obtain ⟨t, rfl⟩ := (show ∃ t, u = Value.int i t from r1)
    obtain ⟨t2, rfl⟩ := (show ∃ t, v = Value.int i t from r2)
    have := EqAt.int_int (A := A) (s := s) i t i t2
    rw [beq_self_eq_true] at this
    exact this
  | @tup n a b xs ys ha hb hl h ih =>
    intro A u v hu r1 r2
    cases r1; cases r2
    by_cases hab : a = b
    · subst hab; exact EqAt.same _
    obtain ⟨t1, w1, p1, _⟩ := I.tuple ha
    obtain ⟨t2, w2, p2, _⟩ := I.tuple hb
    have l1 := w1.length
    have l2 := w2.length
    have := RcAt.tuples (A := A) (s := s) (e := fun _ => true) p1 p2 (by omega) fun j h1 h2 => by
      have g1 : j < t1.length := by simpa using h1
      have g2 : j < t2.length := by simpa using h2
      have ex : xs[j]? = some (xs[j]'(by omega)) := List.getElem?_eq_getElem (by omega)
      have ey : ys[j]? = some (ys[j]'(by omega)) := List.getElem?_eq_getElem (by omega)
      obtain ⟨v1, z1, rx⟩ := w1.get ex
      obtain ⟨v2, z2, ry⟩ := w2.get ey
      have q1 : t1.toArray[j] = v1 := by rw [List.getElem_toArray]; exact (List.getElem?_eq_some_iff.mp z1).2
      have q2 : t2.toArray[j] = v2 := by rw [List.getElem_toArray]; exact (List.getElem?_eq_some_iff.mp z2).2
      rw [q1, q2]
      exact ih j _ _ ex ey A.in1 (by show A.units + 1 + n < cLine; omega) rx ry
    refine EqAt.of_refs hab ?_
    have e : ((List.range (min t1.toArray.size t2.toArray.size)).all (fun _ => true) && t1.toArray.size == t2.toArray.size) = true := by
      rw [Bool.and_eq_true]
      refine ⟨List.all_eq_true.mpr fun _ _ => rfl, ?_⟩
      rw [List.size_toArray, List.size_toArray, beq_iff_eq]; omega
    rw [e] at this
    exact this
/-- t != u, equal part by part -/
def rNeTT (K : PySem.W.Frag) : R2 := fun x y H Q => ∃ a b xs ys, x = .ref a ∧ y = .ref b ∧ SqT K H a xs ∧ SqT K H b ys ∧ xs.length = ys.length ∧ (∀ (i : Nat) (x y : V), xs[i]? = some x → ys[i]? = some y → Eqv K H 8 x y) ∧ Q (.bl false) H
theorem op_neTT {X : Cx} {K : PySem.W.Frag} (hu : X.A.units + 9 < cLine) (hK : X.K = K) : OpR X (compareOp .NotEq) (rNeTT K) := by
  subst hK
  rintro pins s σ H x y v u Q I rx ry ⟨a, b, xs, ys, rfl, rfl, ha, hb, hl, h, q⟩
  cases rx; cases ry
  obtain ⟨t1, w1, p1, _⟩ := I.tuple ha
  obtain ⟨t2, w2, p2, _⟩ := I.tuple hb
  have l1 := w1.length
  have l2 := w2.length
  refine RcNeAt.tuples (e := fun _ => true) p1 p2 (by omega) (fun j h1 h2 => ?_) _ _ _ _ ⟨.bl false, H, I, ?_, q⟩
  · have g1 : j < t1.length := by simpa using h1
    have g2 : j < t2.length := by simpa using h2
    have ex : xs[j]? = some (xs[j]'(by omega)) := List.getElem?_eq_getElem (by omega)
    have ey : ys[j]? = some (ys[j]'(by omega)) := List.getElem?_eq_getElem (by omega)
    obtain ⟨v1, z1, rx⟩ := w1.get ex
    obtain ⟨v2, z2, ry⟩ := w2.get ey
    have q1 : t1.toArray[j] = v1 := by rw [List.getElem_toArray]; exact (List.getElem?_eq_some_iff.mp z1).2
    have q2 : t2.toArray[j] = v2 := by rw [List.getElem_toArray]; exact (List.getElem?_eq_some_iff.mp z2).2
    rw [q1, q2]
    exact (h j _ _ ex ey).eqAt I X.A.in1 (by show X.A.units + 1 + 8 < cLine; omega) rx ry
  · have e : ((List.range (min t1.toArray.size t2.toArray.size)).all (fun _ => true) && t1.toArray.size == t2.toArray.size) = true := by
      rw [Bool.and_eq_true]
      refine ⟨List.all_eq_true.mpr fun _ _ => rfl, ?_⟩
      rw [List.size_toArray, List.size_toArray, beq_iff_eq]; omega
    rw [e]; rfl
end L2

end

section
set_option Elab.async false
set_option linter.all false
set_option maxRecDepth 100000
set_option maxHeartbeats 4000000
namespace L2
open PySem PySem.Spec PyProof.Rows PySem.SeqAt
section
variable {X : Cx} {K : PySem.W.Frag}
/-! ### xs.insert(k, y) -/
def rInsert : V → List V → Hp → VK → Prop := fun x vs H Q => ∃ (l : Addr) (xs : List V) (k : Nat) (y : V), x = .ref l ∧ vs = [.int (k : Int), y] ∧ H l = some (.lst xs) ∧ k ≤ xs.length ∧ xs.length < sizeLine ∧ Q .non (upd H l (.lst (xs.take k ++ y :: xs.drop k)))
/-- xs == [] -/
def rEqL0 (K : PySem.W.Frag) : R2 := fun x y H Q => ∃ a b xs, x = .ref a ∧ y = .ref b ∧ SqL K H a xs ∧ SqL K H b [] ∧ Q (.bl xs.isEmpty) H
theorem op_eqL0 (hu : X.A.units < cLine) (hK : X.K = K) : OpR X (compareOp .Eq) (rEqL0 K) := by
  subst hK
  rintro pins s σ H x y v u Q I rx ry ⟨a, b, xs, rfl, rfl, ha, hb, q⟩
  cases rx; cases ry
  obtain ⟨its, r1, p1, _⟩ := I.list ha
  obtain ⟨its2, r2, p2, _⟩ := I.list hb
  obtain rfl := r2.nil_iff.mpr rfl
  have e : its.toArray.size = xs.length := by rw [List.size_toArray]; exact r1.length.symm
  cases xs with
  | nil =>
    refine RcAt.lists (e := fun _ => true) p1.isList p2.isList (by rw [e]; rfl) hu (fun j h1 h2 => absurd h2 (by simp)) _ _ _ _ ⟨.bl true, H, I, ?_, q⟩
    rw [e]; rfl
  | cons z zs => exact RcAt.lists_lengths p1.isList p2.isList (by rw [e]; simp) hu _ _ _ _ ⟨.bl false, H, I, rfl, q⟩
end
end L2

end

section
set_option Elab.async false
set_option linter.all false
set_option maxRecDepth 100000
set_option maxHeartbeats 4000000
namespace L2
open PySem PySem.Spec PyProof.Rows PySem.SeqAt
section
variable {X : Cx}
/-! ### dict(d), d == e, d != e -/
/-- two dicts of the same entries, their values numbers -/
def rEqD (neg : Bool) : R2 := fun x y H Q => ∃ (a b : Addr) (kvs : List (Key × V)), x = .ref a ∧ y = .ref b ∧ H a = some (.dK kvs) ∧ H b = some (.dK kvs) ∧ (∀ k x, (k, x) ∈ kvs → valV kvs k = some x ∧ ∃ n : Int, x = .int n) ∧ Q (.bl (!neg)) H
end
end L2

end

section
set_option Elab.async false
set_option linter.all false
set_option maxRecDepth 100000
set_option maxHeartbeats 4000000
namespace L2
open PySem PySem.Spec PyProof.Rows PySem.SeqAt
end L2

end

section
set_option Elab.async false
set_option linter.all false
set_option maxRecDepth 100000
set_option maxHeartbeats 4000000
namespace L2
open PySem PySem.Spec PyProof.Rows PySem.SeqAt
section
variable {X : Cx} {K : PySem.W.Frag}
/-- x != y: both None, or two tuples that are equal part by part -/
def rNeNT (K : PySem.W.Frag) : R2 := fun x y H Q => (x = .non ∧ y = .non ∧ Q (.bl false) H) ∨ rNeTT K x y H Q
theorem op_neNT (hu : X.A.units + 9 < cLine) (hK : X.K = K) : OpR X (compareOp .NotEq) (rNeNT K) := by
  rintro pins s σ H x y v u Q I rx ry (⟨rfl, rfl, q⟩ | h)
  · exact op_ne pins s σ H .non .non v u Q I rx ry ⟨rfl, q⟩
  · exact op_neTT hu hK pins s σ H x y v u Q I rx ry h
/-- two lists of None and numbers, the same -/
def rNeLS (K : PySem.W.Frag) : R2 := fun x y H Q => ∃ a b xs, x = .ref a ∧ y = .ref b ∧ SqL K H a xs ∧ SqL K H b xs ∧ (∀ z ∈ xs, z = .non ∨ ∃ i : Int, z = .int i) ∧ Q (.bl false) H
theorem op_neLS (hu : X.A.units < cLine) (hK : X.K = K) : OpR X (compareOp .NotEq) (rNeLS K) := by
  subst hK
  rintro pins s σ H x y v u Q I rx ry ⟨a, b, xs, rfl, rfl, ha, hb, hx, q⟩
  cases rx; cases ry
  obtain ⟨t1, r1, p1, _⟩ := I.list ha
  obtain ⟨t2, r2, p2, _⟩ := I.list hb
  have l1 := r1.length
  have l2 := r2.length
  refine RcNeAt.lists (e := fun _ => true) p1.isList p2.isList (by rw [List.size_toArray, List.size_toArray]; omega) hu (fun j h1 h2 => ?_) _ _ _ _ ⟨.bl false, H, I, ?_, q⟩
  · have g1 : j < t1.length := by simpa using h1
    have g2 : j < t2.length := by simpa using h2
    have ex : xs[j]? = some (xs[j]'(by omega)) := List.getElem?_eq_getElem (by omega)
    obtain ⟨v1, z1, rx⟩ := r1.get ex
    obtain ⟨v2, z2, ry⟩ := r2.get ex
    have q1 : t1.toArray[j] = v1 := by rw [List.getElem_toArray]; exact (List.getElem?_eq_some_iff.mp z1).2
    have q2 : t2.toArray[j] = v2 := by rw [List.getElem_toArray]; exact (List.getElem?_eq_some_iff.mp z2).2
    rw [q1, q2]
    rcases hx _ (List.mem_of_getElem? ex) with e | ⟨i, e⟩
    · rw [e] at rx ry
      cases rx; cases ry
      exact EqAt.same _
    · rw [e] at rx ry
      obtain ⟨t, rfl⟩ := (show ∃ t, v1 = Value.int i t from rx)
      obtain ⟨t', rfl⟩ := (show ∃ t, v2 = Value.int i t from ry)
      have := EqAt.int_int (A := X.A.in1) (s := s) i t i t'
      rw [beq_self_eq_true] at this
      exact this
  · show _ = Value.bool false
    rw [show ((List.range t1.toArray.size).all fun _ => true) = true from List.all_eq_true.mpr fun _ _ => rfl]
    rfl
end
end L2

end

section
set_option Elab.async false
set_option linter.all false
set_option maxRecDepth 100000
set_option maxHeartbeats 4000000
namespace L2
open PySem PySem.Spec PyProof.Rows

/-! ### a comprehension whose own variables are cells -/
structure CompOk2 (N : List Str) (osc : Scope) (Nc : List Str) (src : List (Option Nat)) (scope : Scope) : Prop where
  kind : scope.kind = .function
  nodup : scope.names.Pairwise fun x y => x.1 ≠ y.1
  free : ∀ x ∈ scope.names, x.2 = .free → osc.names.lookup x.1 = some .cell ∨ osc.names.lookup x.1 = some .free
  len : src.length = Nc.length
  src : ∀ (j i : Nat), src[j]? = some (some i) → ∃ x, Nc[j]? = some x ∧ N[i]? = some x ∧ scope.names.lookup x = some .free
def compCheck2 (N : List Str) (osc : Scope) (Nc : List Str) (src : List (Option Nat)) (scope : Scope) : Bool :=
  scope.kind == .function && ndOk scope.names &&
  (scope.names.all fun x => x.2 != .free || osc.names.lookup x.1 == some .cell || osc.names.lookup x.1 == some .free) && srcOk N scope.names src Nc
theorem compOk2_of {N : List Str} {osc : Scope} {Nc : List Str} {src : List (Option Nat)} {scope : Scope} (h : compCheck2 N osc Nc src scope = true) : CompOk2 N osc Nc src scope := by
  simp only [compCheck2, Bool.and_eq_true, beq_iff_eq, List.all_eq_true, bne_iff_ne] at h
  obtain ⟨⟨⟨h1, h3⟩, h4⟩, h5⟩ := h
  refine ⟨h1, ndOk_nd h3, fun x hx hf => ?_, srcOk_len h5, srcOk_src h5⟩
  have := h4 x hx
  simp only [Bool.or_eq_true, bne_iff_ne, beq_iff_eq] at this
  rcases this with (z | z) | z
  · exact absurd hf z
  · exact .inl z
  · exact .inr z

theorem cells_app : ∀ (names : List (Str × NameKind)) (n : Nat) (a b : List (Str × Addr)), cellsFrom n names (a ++ b) = cellsFrom n names a ++ b
  | [], _, _, _ => rfl
  | (x, k) :: r, n, a, b => by
    unfold cellsFrom
    split
    · exact cells_app r (n + 1) ((x, n) :: a) b
    · exact cells_app r n a b
theorem cells_mem : ∀ (names : List (Str × NameKind)) (n : Nat) (a : List (Str × Addr)) (x : Str) (c : Addr), (x, c) ∈ cellsFrom n names a → (x, NameKind.cell) ∈ names ∨ (x, c) ∈ a
  | [], _, _, _, _, h => .inr h
  | (y, k) :: r, n, a, x, c, h => by
    unfold cellsFrom at h
    split at h
    · rename_i hk
      have hk : k = .cell := eq_of_beq hk
      rcases cells_mem r _ _ x c h with z | z
      · exact .inl (List.mem_cons_of_mem _ z)
      · rcases List.mem_cons.mp z with e | z
        · cases e; subst hk; exact .inl List.mem_cons_self
        · exact .inr z
    · rcases cells_mem r _ _ x c h with z | z
      · exact .inl (List.mem_cons_of_mem _ z)
      · exact .inr z
theorem cells_sub : ∀ (names : List (Str × NameKind)) (n : Nat) (a : List (Str × Addr)) (p : Str × Addr), p ∈ a → p ∈ cellsFrom n names a
  | [], _, _, _, h => h
  | (y, k) :: r, n, a, p, h => by
    unfold cellsFrom
    split
    · exact cells_sub r _ _ p (List.mem_cons_of_mem _ h)
    · exact cells_sub r _ _ p h
theorem cells_has : ∀ (names : List (Str × NameKind)) (n : Nat) (a : List (Str × Addr)) (x : Str), (x, NameKind.cell) ∈ names → ∃ c, (x, c) ∈ cellsFrom n names a
  | (y, k) :: r, n, a, x, h => by
    unfold cellsFrom
    rcases List.mem_cons.mp h with e | h
    · cases e
      rw [if_pos (show (NameKind.cell == NameKind.cell) = true from rfl)]
      exact ⟨n, cells_sub r _ _ _ List.mem_cons_self⟩
    · split
      · exact cells_has r _ _ x h
      · exact cells_has r _ _ x h
theorem lookup_has {α : Type} : ∀ {l : List (Str × α)} {x : Str} {c : α}, (x, c) ∈ l → ∃ d, l.lookup x = some d
  | (y, d) :: r, x, c, h => by
    rw [List.lookup_cons]
    cases hb : x == y with
    | true => exact ⟨d, rfl⟩
    | false =>
      rcases List.mem_cons.mp h with e | h
      · cases e; simp at hb
      · exact lookup_has h
theorem lookup_or {α : Type} : ∀ {l r : List (Str × α)} {x : Str}, (l ++ r).lookup x = match l.lookup x with
    | some c => some c
    | none => r.lookup x
  | [], r, x => rfl
  | (y, d) :: l, r, x => by
    rw [List.cons_append, List.lookup_cons, List.lookup_cons]
    cases hb : x == y with
    | true => rfl
    | false => exact lookup_or
theorem newEnv_own {M : Model} {A : Around} {E : Value → Shared → Prop} {s : Shared} {scope : Scope} {globals : Addr} {cl : List (Str × Addr)} {qual : Str} {outer : Env} {Q : Env → Shared → Prop}
    (hQ : Q (newEnv scope s.heap.objs.size globals (cellsFrom (s.heap.objs.size + 1) scope.names cl) qual none .none (some outer) builtinsNs)
      { s with heap := pushCells (s.heap.push { cls := .type "dict", data := .dict #[] }) scope.names }) :
    wpAny M A (newFunctionEnv scope globals cl [] qual none .none (some outer)) Q E s := by
  simp only [newFunctionEnv, Option.isSome_some, if_true]
  refine wpAny_bind (wpAny_alloc ?_)
  refine wpAny_bind (wpAny_layCells _ (fun name kind cells => by cases hkc : kind == NameKind.cell <;> simp [hkc]) _ _ _ _ ?_)
  rw [show ({ s with heap := s.heap.push { cls := .type "dict", data := .dict #[] } } : Shared).heap.objs.size = s.heap.objs.size + 1 from Heap.size_push ..]
  exact wpAny_bind (wpAny_pure (wpAny_pure hQ))

def cxC2 (X : Cx) (Nc : List Str) (scope : Scope) (cl : List (Str × Addr)) (C : Addr) (fp : List Addr) (s2 : Shared) (H2 : Hp) : Cx :=
  { cxC X Nc scope cl C fp s2 H2 with fn := fun x => scope.names.lookup x == some .cell }

/-- the cells that the comprehension sees -/
structure OwnC (X : Cx) (scope : Scope) (C : Addr) (h1 : Heap) (cl : List (Str × Addr)) : Prop where
  lk : ∀ (x : Str) (c : Addr), cl.lookup x = some c → (X.env.cells.lookup x = some c ∧ ¬ (x, NameKind.cell) ∈ scope.names) ∨ (C < c ∧ h1.IsCell c none)
  inj : ∀ (x y : Str) (c : Addr), C < c → cl.lookup x = some c → cl.lookup y = some c → x = y
  own : ∀ x c, (x, NameKind.cell) ∈ scope.names → cl.lookup x = some c → C < c
  has : ∀ x, (x, NameKind.cell) ∈ scope.names → ∃ c, cl.lookup x = some c
  free : ∀ x, (x, NameKind.free) ∈ scope.names → ∃ c, cl.lookup x = some c ∧ X.env.cells.lookup x = some c

theorem cxC2_ok {X : Cx} {pins : List (Addr × Obj)} {σ : St} {H2 : Hp} {s2 : Shared} {Nc : List Str} {src : List (Option Nat)} {scope : Scope} {cl : List (Str × Addr)} {C : Addr} {fp : List Addr} {h1 : Heap} (I2 : Inv X pins σ H2 s2) (S : CompOk2 X.N X.env.scope Nc src scope)
    (O : OwnC X scope C h1 cl) (hC : s2.heap.objs.size ≤ C)
    (hfp : ∀ b ∈ fp, b < s2.heap.objs.size) (f2 : ∀ b ∈ fp, FpOk X pins H2 b) : (cxC2 X Nc scope cl C fp s2 H2).Ok where
  mod := I2.ok.mod
  kind := S.kind
  glob := I2.ok.glob
  blt := I2.ok.blt
  above := hC
  inj := fun x y c h1 h2 => by
    rcases O.lk x c h1 with ⟨z, _⟩ | ⟨z, _⟩
    · rcases O.lk y c h2 with ⟨z', _⟩ | ⟨z', _⟩
      · exact I2.ok.inj x y c z z'
      · exact O.inj x y c z' h1 h2
    · exact O.inj x y c z h1 h2
  has := fun x h => by
    have h' : (relabel scope X.env).names.lookup x = some .cell ∨ (relabel scope X.env).names.lookup x = some .free := h
    rw [lookup_relabel] at h'
    cases hk : scope.names.lookup x with
    | none => rw [hk] at h'; rcases h' with h' | h' <;> cases h'
    | some k =>
      have hm := lookup_mem hk
      cases k with
      | free => obtain ⟨c, e, _⟩ := O.free x hm; exact ⟨c, e⟩
      | cell => exact O.has x hm
      | _ => exfalso; rw [hk] at h'; revert h'; simp
  cab := fun x c h e => Nat.le_of_lt (Nat.lt_of_le_of_lt hC (O.own x c (lookup_mem (eq_of_beq h)) e))
  hd := I2.ok.hd
  frames := I2.ok.frames
  stk := .inl rfl
  exf := fun b hb => ⟨Nat.ne_of_lt (Nat.lt_of_lt_of_le (hfp b hb) hC), fun x c e => by
    rcases O.lk x c e with ⟨z, _⟩ | ⟨z, _⟩
    · exact (f2 b hb).2.2.2.2.1 x c z
    · exact fun y => absurd (Nat.lt_of_lt_of_le (hfp b hb) hC) (by rw [← y]; exact Nat.lt_asymm z)⟩
  bs := I2.bs
  bsz := Nat.le_trans I2.ok.bsz I2.sz
  noex := fun b o e hb => by
    rcases (f2 b hb).2.2.2.1 with z | z
    · exact I2.ok.noex b o e z
    · exact absurd (Nat.lt_of_lt_of_le (Heap.lt_size e) (Nat.le_trans I2.ok.bsz z)) (Nat.lt_irrefl _)
  exfs := fun b hb hs => by
    obtain ⟨_, f1, f3, _⟩ := f2 b hb
    rcases List.mem_cons.mp (I2.stkSub b hs) with z | z
    · exact f1 z
    · exact f3 z
  funs := I2.stack
  frf := I2.stkFree

theorem comp_core2 {X : Cx} {pins : List (Addr × Obj)} {σ : St} {H2 : Hp} {s2 : Shared} {Nc : List Str} {src : List (Option Nat)} {scope : Scope} {cl : List (Str × Addr)} {fp : List Addr} {elt tg iter : Expr} {ifs : List Expr} {pos : Pos}
    {it : Addr} {tn : Nat → Heap → Prop} {J : It} {g : TG} {tf : TT} {te : TE} {Qf : List V → Hp → Prop} {E : Value → Shared → Prop} {RR : Value → Addr → Result → Shared → Prop}
    (hc : X.calm = true) (I2 : Inv X pins σ H2 s2) (S : CompOk2 X.N X.env.scope Nc src scope)
    (hcl1 : ∀ (x : Str) (c : Addr), cl.lookup x = some c → X.env.cells.lookup x = some c) (hcl2 : ∀ x ∈ scope.names, x.2 = .free → ∃ c, cl.lookup x.1 = some c)
    (T : Turn X.prog X.w X.K tg J fp it tn) (st2 : tn 0 s2.heap) (f2 : ∀ b ∈ fp, FpOk X pins H2 b)
    (hg : ∀ cl C fp s2 H2, PG (cxC2 X Nc scope cl C fp s2 H2) tg g) (hf : ∀ cl C fp s2 H2, PF (cxC2 X Nc scope cl C fp s2 H2) ifs tf) (he : ∀ cl C fp s2 H2, PE (cxC2 X Nc scope cl C fp s2 H2) elt te)
    (hw : CompW J g tf te Qf (cstart src σ) H2)
    (fin : ∀ (H4 : Hp) (s4 : Shared) (ys : List V) (m : Str → Option Value) (C : Addr), s2.heap.objs.size ≤ C → H4 s2.heap.objs.size = none → Inv X pins σ (upd H4 s2.heap.objs.size (.lst ys)) s4 → s4.heap.Ns C m → upd H4 s2.heap.objs.size (.lst ys) C = none → Qf ys H4 → RR (.ref s2.heap.objs.size) C (.ok .next) s4) :
    wpAny (model X.prog X.w) X.A (newList []) (fun acc s3 => wpAny (model X.prog X.w) X.A (newFunctionEnv scope X.env.globals cl [] X.env.qual none .none (some X.env)) (fun cenv s4 =>
      codeAny (model X.prog X.w) X.A (.compStart (.ListComp elt [⟨tg, iter, ifs, 0⟩] scope pos) 0 (.ref it) acc { cenv with scope := relabel scope X.env }) (RR acc cenv.locals) s4) E s3) E s2 := by
  refine wpAny_newObj_type (newEnv_own ?_)
  dsimp only
  generalize hH2 : s2.heap.push { cls := .type "list", dict := none, data := .seq ([] : List Value).toArray } = G2
  have hCz : G2.objs.size = s2.heap.objs.size + 1 := by rw [← hH2, Heap.size_push]
  have hns0 := (Heap.Ns.new G2 (.type "dict")).keeps (pushCells_keeps scope.names _)
  have own0 := cellsFrom_ok scope.names (G2.push { cls := .type "dict", data := .dict #[] }) (G2.objs.size + 1) [] ⟨fun _ _ hm => (nomatch hm), List.Pairwise.nil⟩ (by rw [Heap.size_push]; exact Nat.le_refl _)
  rw [Heap.size_push] at own0
  generalize hCe : G2.objs.size = C at hns0 own0 hCz ⊢
  generalize hDe : s2.heap.objs.size = D at fin hCz ⊢
  generalize hh1 : pushCells (G2.push { cls := .type "dict", data := .dict #[] }) scope.names = h1 at hns0 own0 ⊢
  have hns1 : h1.Ns C (fun _ => none) := hns0
  have hDC : D ≠ C := by omega
  have hCle : s2.heap.objs.size ≤ C := by omega
  have hDle : s2.heap.objs.size ≤ D := by omega
  have old : ∀ b o, s2.heap.get? b = some o → h1.get? b = some o := fun b o e => by
    rw [← hh1]
    exact pushCells_keeps _ _ _ _ (Heap.get?_push_of_some _ (hH2 ▸ Heap.get?_push_of_some _ e))
  have hacc : h1.get? D = some { cls := .type "list", data := .seq ([] : List Value).toArray 0 } := by
    rw [← hh1]
    refine pushCells_keeps _ _ _ _ (Heap.get?_push_of_some _ ?_)
    rw [← hH2, ← hDe]
    exact Heap.get?_push_size _ rfl
  have O : OwnC X scope C h1 (cellsFrom (C + 1) scope.names cl) := by
    have ea : cellsFrom (C + 1) scope.names cl = cellsFrom (C + 1) scope.names [] ++ cl := cells_app scope.names (C + 1) [] cl
    rw [ea]
    have lo : ∀ x c, (cellsFrom (C + 1) scope.names []).lookup x = some c → C < c ∧ h1.IsCell c none := fun x c e =>
      let z := own0.empty x c (lookup_mem e); ⟨z.2, z.1⟩
    have isc : ∀ x c, (cellsFrom (C + 1) scope.names []).lookup x = some c → (x, NameKind.cell) ∈ scope.names := fun x c e => by
      rcases cells_mem _ _ _ _ _ (lookup_mem e) with z | z
      · exact z
      · cases z
    have small : ∀ x c, cl.lookup x = some c → c < C := fun x c e => by
      obtain ⟨v, z⟩ := I2.cell x c (hcl1 _ _ e)
      exact Nat.lt_of_lt_of_le z.lt hCle
    have get : ∀ x, (x, NameKind.cell) ∈ scope.names → ∃ c, (cellsFrom (C + 1) scope.names []).lookup x = some c := fun x h => by
      obtain ⟨c, hc⟩ := cells_has scope.names (C + 1) [] x h
      exact lookup_has hc
    refine ⟨fun x c e => ?_, fun x y c hc e1 e2 => ?_, fun x c h e => ?_, fun x h => ?_, fun x h => ?_⟩
    · rw [lookup_or] at e
      cases hl : (cellsFrom (C + 1) scope.names []).lookup x with
      | some d => rw [hl] at e; cases e; exact .inr (lo x _ hl)
      | none =>
        rw [hl] at e
        refine .inl ⟨hcl1 _ _ e, fun h => ?_⟩
        obtain ⟨d, hd⟩ := get x h
        rw [hl] at hd; cases hd
    · rw [lookup_or] at e1 e2
      cases hl : (cellsFrom (C + 1) scope.names []).lookup x with
      | none => rw [hl] at e1; exact absurd (small x c e1) (Nat.lt_asymm hc)
      | some d =>
        cases hl' : (cellsFrom (C + 1) scope.names []).lookup y with
        | none => rw [hl'] at e2; exact absurd (small y c e2) (Nat.lt_asymm hc)
        | some d' =>
          rw [hl] at e1; rw [hl'] at e2
          cases e1; cases e2
          exact name_of_addr own0.apart (lookup_mem hl) (lookup_mem hl')
    · obtain ⟨d, hd⟩ := get x h
      rw [lookup_or, hd] at e
      cases e; exact (lo x _ hd).1
    · obtain ⟨d, hd⟩ := get x h
      exact ⟨d, by rw [lookup_or, hd]⟩
    · obtain ⟨c, hc⟩ := hcl2 _ h rfl
      refine ⟨c, ?_, hcl1 _ _ hc⟩
      rw [lookup_or]
      cases hl : (cellsFrom (C + 1) scope.names []).lookup x with
      | none => exact hc
      | some d =>
        have z1 := lookup_of_mem S.nodup (isc x d hl)
        have z2 := lookup_of_mem S.nodup h
        rw [z1] at z2; cases z2
  generalize hcle : cellsFrom (C + 1) scope.names cl = cl' at O ⊢
  have hfp : ∀ b ∈ fp, b < s2.heap.objs.size := fun b hb => by
    obtain ⟨o, e, _⟩ := T.obj 0 _ st2 b hb
    exact Heap.lt_size e
  have ok := cxC2_ok (Nc := Nc) (src := src) (scope := scope) (cl := cl') (C := C) (fp := fp) I2 S O hCle hfp f2
  generalize hXC : cxC2 X Nc scope cl' C fp s2 H2 = Y at ok
  have hYN : Y.N = Nc := by rw [← hXC]; rfl
  -- the inner start
  have I0 : Inv (cxC2 X Nc scope cl' C fp s2 H2) [] (cstart src σ) H2 { s2 with heap := h1 } := by
    rw [← hXC] at ok
    refine ⟨ok, rfl, I2.bare, Un.kept old, ⟨_, hns1, fun j x v e1 e2 _ => ?_⟩, fun x c e => ?_, I2.hok.fresh hCle, fun x c e => by
      rcases O.lk x c e with ⟨z, _⟩ | ⟨z, _⟩
      · exact I2.freeC x c z
      · exact I2.hok.fresh (Nat.le_of_lt (Nat.lt_of_le_of_lt hCle z)), (fun p hp => nomatch hp), I2.hok.kept old, ?_⟩
    · -- a name of the closure
      have e2' : (cstart src σ)[j]? = some (some v) := e2
      have e1' : Nc[j]? = some x := e1
      unfold cstart at e2'
      rw [List.getElem?_map] at e2'
      cases hs : src[j]? with
      | none => rw [hs] at e2'; cases e2'
      | some o =>
        rw [hs] at e2'
        cases o with
        | none => cases e2'
        | some i =>
          simp only [Option.map_some, Option.some.injEq] at e2'
          obtain ⟨y, hy1, hy2, hy3⟩ := S.src j i hs
          rw [e1'] at hy1; cases hy1
          have hσ : σ[i]? = some (some v) := by
            cases hq : σ[i]? with
            | none => rw [hq] at e2'; cases e2'
            | some z => rw [hq] at e2'; simp only [Option.getD_some] at e2'; rw [e2']
          have hm := lookup_mem hy3
          have hfr := S.free _ hm rfl
          obtain ⟨m0, hn0, hl0⟩ := I2.loc
          obtain ⟨u, r, l⟩ := hl0 i x v hy2 hσ (Or.inr hfr)
          refine ⟨u, r, .inr ⟨?_, ?_⟩⟩
          · show (relabel scope X.env).names.lookup x = some .cell ∨ (relabel scope X.env).names.lookup x = some .free
            rw [lookup_relabel, hy3]
            simp only [Option.map_some]
            split
            · exact .inl rfl
            · exact .inr rfl
          · rcases l with ⟨k, _⟩ | ⟨_, c, hc1, hc2⟩
            · have k' : X.env.scope.names.lookup x = some .local := k
              rw [k'] at hfr; rcases hfr with z | z <;> cases z
            · obtain ⟨c', hc', this⟩ := O.free _ hm
              rw [hc1] at this; cases this
              exact ⟨c, hc', hc2.keeps old⟩
    · rcases O.lk x c e with ⟨y, _⟩ | ⟨_, y⟩
      · obtain ⟨v, z⟩ := I2.cell x c y
        exact ⟨v, z.keeps old⟩
      · exact ⟨none, y⟩
    · show (cstart src σ).length = Nc.length
      unfold cstart; rw [List.length_map]; exact S.len
  obtain ⟨W, ⟨m0, w0⟩, turn⟩ := hw
  have loop : codeAny (model X.prog X.w) X.A (.compLoop (.ListComp elt [⟨tg, iter, ifs, 0⟩] scope pos) 0 (.ref it) (.ref D) (compEnvC scope cl' C X.env)) (RR (.ref D) C) { s2 with heap := h1 } := by
    have fpk : ∀ {H' : Hp} {ob : Obj}, (∀ b ∈ fp, H' b = none) → ∀ b ∈ fp, FpOk (cxC2 X Nc scope cl' C fp s2 H2) [(D, ob)] H' b := fun {H' ob} hn b hb =>
      ⟨hn b hb, (I0.ok.exf b hb).1, I0.ok.exfs b hb, .inl hb, (I0.ok.exf b hb).2, fun p hp => by
        have e : p = (D, ob) := List.mem_singleton.mp hp
        subst e
        exact Nat.ne_of_gt (Nat.lt_of_lt_of_le (hfp b hb) hDle)⟩
    have hDfs : D ∉ frs X.stack := fun hs => by
      rcases List.mem_cons.mp (I2.stkSub D hs) with z | z
      · exact absurd (Nat.lt_of_lt_of_le I2.lt hDle) (by rw [z]; exact Nat.lt_irrefl _)
      · exact I2.nofs hDle z
    refine loop_go (fun n s' => ∃ i ys σ' H' its k, Inv (cxC2 X Nc scope cl' C fp s2 H2) [] σ' H' s' ∧ tn i s'.heap ∧ (∀ b ∈ fp, H' b = none) ∧ H' D = none ∧ s'.heap.get? D = some { cls := .type "list", data := .seq (its : List Value).toArray k } ∧ Vals ys its ∧ W i n ys σ' H') ?_ m0
      ⟨0, [], cstart src σ, H2, [], 0, I0, T.keep _ _ _ st2 fun b hb o e => old b o e, fun b hb => (f2 b hb).1, I2.hok.fresh hDle, hacc, .nil, w0⟩
    rintro n s3 ⟨i, ys, σ3, H3, its, k, I3, st3, fr3, hD3, hO3, vs3, w3⟩
    have I3' : Inv (cxC2 X Nc scope cl' C fp s2 H2) [(D, ({ cls := .type "list", data := .seq its.toArray k } : Obj))] σ3 H3 s3 := I3.pins_of fun p hp => by
      have e := List.mem_singleton.mp hp
      subst e
      exact ⟨hO3, hD3, hDC, hDfs, fun v z => by
        have z' : Data.seq _ _ = Data.cell v := z
        cases z'⟩
    rcases turn i n ys σ3 H3 w3 with ⟨stop, hlen, qn⟩ | ⟨go, hlen, N, hN, step⟩
    · refine thn (T.done (cxC2 X Nc scope cl' C fp s2 H2) rfl rfl rfl hc i _ s3 σ3 H3 _ I3' (fpk fr3) st3 stop) fun r s4 ⟨hr, I4⟩ => ?_
      subst hr
      have hO4 := (I4.pin (D, _) (List.mem_append_right _ (List.mem_singleton.mpr rfl))).1
      obtain ⟨m4, hn4, _⟩ := I4.loc
      have fC : H3 C = none := I4.free
      have uD : upd H3 D (.lst ys) C = none := by rw [upd_ne hDC.symm]; exact fC
      have hl2 : ∀ b v, H2 b = some v → b < s2.heap.objs.size := fun b v e => I2.hok.lt e
      have Iout : Inv X pins σ (upd H3 D (.lst ys)) s4 := by
        refine I2.call' (ch := fp) I4.os (Un.track I4.base hDle hl2) (HOk.track I4.hok hD3 ⟨hlen, its, k, vs3, hO4⟩) I4.bare fun b hb => ?_
        obtain ⟨_, a1, _, a3, a4, a5⟩ := f2 b hb
        exact ⟨a3, a1, a4, a5⟩
      exact fin H3 s4 ys m4 C (by omega) hD3 Iout hn4 uD qn
    · refine thn (T.item (cxC2 X Nc scope cl' C fp s2 H2) rfl rfl rfl hc i _ s3 σ3 H3 _ I3' (fpk fr3) st3 go) fun r s4 ⟨u, hr, h4⟩ => ?_
      subst hr
      refine thn h4 fun _ s5 ⟨x, H5, I5, r5, y5, st5, fr5⟩ => ?_
      have I5' := I5.pinned (fpk fr5) (T.obj _ _ st5)
      refine thn (hg cl' C fp s2 H2 _ s5 σ3 H5 x u _ I5' r5 (step x H5 y5)) fun _ s6 ⟨σ6, H6, I6, q6⟩ => ?_
      refine thn (hf cl' C fp s2 H2 _ s6 σ6 H6 _ I6 q6) fun ok s7 ⟨H7, I7, q7⟩ => ?_
      have back : ∀ {s8 : Shared} {σ8 : St} {H8 : Hp}, Inv (cxC2 X Nc scope cl' C fp s2 H2) ([(D, ({ cls := .type "list", data := .seq its.toArray k } : Obj))] ++ pinsAt fp s5.heap) σ8 H8 s8 →
          tn (i + 1) s8.heap ∧ (∀ b ∈ fp, H8 b = none) ∧ H8 D = none ∧ s8.heap.get? D = some { cls := .type "list", data := .seq its.toArray k } := fun {s8 σ8 H8} I8 => by
        refine ⟨T.keep _ _ _ st5 fun b hb o e => (I8.pin (b, o) (List.mem_append_right _ (List.mem_append_right _ (mem_pinsAt hb e)))).1, fun b hb => ?_, ?_, ?_⟩
        · obtain ⟨o, e, d⟩ := T.obj _ _ st5 b hb
          exact (I8.pin (b, o) (List.mem_append_right _ (List.mem_append_right _ (mem_pinsAt hb e)))).2.1
        · exact (I8.pin (D, _) (List.mem_append_right _ (List.mem_append_left _ (List.mem_singleton.mpr rfl)))).2.1
        · exact (I8.pin (D, _) (List.mem_append_right _ (List.mem_append_left _ (List.mem_singleton.mpr rfl)))).1
      cases ok with
      | false =>
        obtain ⟨m', hm', w7⟩ := hN _ _ _ q7
        obtain ⟨b1, b2, b3, b4⟩ := back I7
        exact ⟨m', hm', i + 1, ys, σ6, H7, its, k, I7.pins_of (fun p hp => nomatch hp), b1, b2, b3, b4, vs3, w7⟩
      | true =>
        refine thn (he cl' C fp s2 H2 _ s7 σ6 H7 _ I7 q7) fun v s8 ⟨y, H8, I8, r8, q8⟩ => ?_
        obtain ⟨m', hm', w8⟩ := hN _ _ _ q8
        obtain ⟨b1, b2, b3, b4⟩ := back I8
        have hl8 := vs3.length
        refine call_meets F.slot_list_append ⟨_, b4, rfl⟩ F.entry_list_append (F.args_list_append_2 _ _) (PySem.list_append D its.toArray k v (by rw [List.size_toArray]; omega)) ⟨b4, ?_⟩
        have I8n : Inv (cxC2 X Nc scope cl' C fp s2 H2) [] σ6 H8 s8 := I8.pins_of fun p hp => nomatch hp
        have kq : ∀ b o, b ≠ D → s8.heap.get? b = some o → (s8.heap.update D (Obj.mapSeq (·.push v))).get? b = some o := fun b o hb e => (Heap.get?_update_other s8.heap _ (Ne.symm hb)).trans e
        have qn := PySem.IsL.update b4 (·.push v)
        have e2 : its.toArray.push v = (its ++ [v]).toArray := by simp
        rw [e2] at qn
        have I9 : Inv (cxC2 X Nc scope cl' C fp s2 H2) [] σ6 H8 { s8 with heap := s8.heap.update D (Obj.mapSeq (·.push v)), toks := s8.toks } :=
          I8n.turned (it := D) kq b3 hDC (.inr hDle) (fun x c e z => by
            rcases O.lk x c e with ⟨y, _⟩ | ⟨y, _⟩
            · obtain ⟨w', z'⟩ := I2.cell x c y
              exact absurd (Nat.lt_of_lt_of_le z'.lt hDle) (by rw [z]; exact Nat.lt_irrefl _)
            · have hDC' : D < C := by omega
              exact absurd (Nat.lt_trans hDC' y) (by rw [z]; exact Nat.lt_irrefl _)) (fun p hp => nomatch hp)
        refine ⟨m', hm', i + 1, ys ++ [y], σ6, H8, its ++ [v], _, I9, T.keep _ _ _ b1 fun b hb o e => kq b o (Nat.ne_of_lt (Nat.lt_of_lt_of_le (hfp b hb) hDle)) e, b2, b3, qn, vs3.append (.cons r8 .nil), w8⟩
  exact codeAny_compStart_list loop (T.self X.A 0 _ _ _ (T.keep _ _ _ st2 fun b hb o e => old b o e) loop)

section
variable {X : Cx} {Nc : List Str} {src : List (Option Nat)} {scope : Scope} {elt tg iter : Expr} {ifs : List Expr} {pos : Pos} {wi : TI} {g : TG} {tf : TT} {te : TE}
/-- name = [elt for ..], stored ahead of the block's end -/
theorem ps_setCompC {i : Nat} {y : Str} {pos' spos : Pos} (src : List (Option Nat)) (hN : X.N.Nodup) (hi' : X.N[i]? = some y) (hy : X.env.scope.names.lookup y = some .local)
    (hc : X.calm = true) (S : CompOk2 X.N X.env.scope Nc src scope) (hi : PI X tg iter wi)
    (hg : ∀ cl C fp s2 H2, PG (cxC2 X Nc scope cl C fp s2 H2) tg g) (hf : ∀ cl C fp s2 H2, PF (cxC2 X Nc scope cl C fp s2 H2) ifs tf) (he : ∀ cl C fp s2 H2, PE (cxC2 X Nc scope cl C fp s2 H2) elt te)
    (hsw : swapsWith (.ListComp elt [⟨tg, iter, ifs, 0⟩] scope pos) (some (.Name y pos')) spos.line X.env = pure true := by rfl)
    (hs : ∀ x, foldedSetIterable iter X.env x = pure x := by intro _; rfl) : PS X (.Assign [.Name y pos'] (.ListComp elt [⟨tg, iter, ifs, 0⟩] scope pos) spos) (tAsg (tComp src wi g tf te) (gName i)) := by
  intro pins s σ H D I h
  obtain ⟨cl, hclos, hcl1, hcl2⟩ := closureFor_ok I.ok (scope := scope) S.free
  rw [exec_Assign_Name_used _ _ _ _ hsw]
  refine wpAny_bind (wpAny_standAt (wpAny_bind ?_))
  show wpAny _ X.A (do let _ ← comprehension (.ListComp elt [⟨tg, iter, ifs, 0⟩] scope pos) scope X.env _ (newList []) false (eval iter X.env) (some (assign (.Name y pos') X.env))) _ _ s
  refine wpAny_bind (wpAny_mono (wpAny_comprehension_free (use := some (assign (.Name y pos') X.env)) (Q := fun _ s' => SP X pins D .next s') rfl hs hclos S.kind (fun x hx hl => by obtain ⟨n, k⟩ := x; cases hl; exact lookup_of_mem S.nodup hx)
    (thn (hi pins s σ H _ I h) fun xv s1 h1 => thn h1 fun itv s2 h2 => ?_)) (fun _ s' hq => wpAny_pure (wpAny_pure hq)) fun _ _ e => e)
  obtain ⟨it, fp, tn, J, H2, e, I2, T, st2, f2, hw⟩ := h2
  subst e
  refine comp_core2 (RR := fun acc C => compPost (model X.prog X.w) X.A X.xe (some (assign (.Name y pos') X.env)) (fun _ s' => SP X pins D .next s') acc C) hc I2 S hcl1 hcl2 T st2 f2 hg hf he hw ?_
  intro H4 s4 ys m C hC hD Iout hn hCn q
  show wpAny _ X.A (assign (.Name y pos') X.env (.ref s2.heap.objs.size)) _ _ _
  refine wpAny_assign_Name (store_ok2 (i := i) Iout hN hi' (.inl hy) (v := .ref s2.heap.objs.size) rfl (fun s5 I5 ch => ?_) (.inr hy))
  obtain ⟨f0, f1, f3, f4, f5, f6⟩ := I2.fpOk (H' := upd H4 s2.heap.objs.size (.lst ys)) hC hCn
  obtain ⟨a, sb, ha⟩ := ch
  have hCa : C ≠ a := by
    rcases ha with ha | ha
    · rw [ha]; exact f1
    · exact fun z => f5 _ _ ha z.symm
  refine ⟨m, hn.sameBut sb hCa, fun h' sb' => ⟨_, _, I5.turned (t' := s5.toks) (it := C) (fun b o hb e => (sb'.2 b hb).trans e) f0 f1 f4 f5 f6, q _ hD⟩⟩
end
section
variable {X : Cx} {K : PySem.W.Frag} {tg l : Expr} {tl : TE}
theorem pi_listE (hK : X.K = K) (hl : PE X l tl) : PI X tg l (iList K tl) := by subst hK; exact pi_list hl
end
end L2

end

set_option Elab.async false
set_option linter.all false
set_option maxRecDepth 100000
set_option maxHeartbeats 8000000
namespace Cb
open PySem L2
def top (i : Nat) : Stmt := PySem.Challenge.pw_chipbus_k13_whole_one_or_none.main.body.getD i (.Pass ⟨0, 0, 0, 0⟩)
theorem bits_le {b : Int} {k : Nat} (h : b.natAbs < 2 ^ k) : Builtin.Int.intBits b ≤ k := by
  unfold Builtin.Int.intBits
  split
  · omega
  · rename_i h0
    have h1 : b.natAbs ≠ 0 := by first | omega | (intro z; simp_all)
    have := (Nat.log2_lt h1).mpr h
    omega
theorem mul_ok {a b : Int} (ha : a.natAbs < 2 ^ 200) (hb : b.natAbs < 2 ^ 200) : IntMulOk a b := IntMulOk.of_bits (Nat.le_trans (bits_le ha) (by decide)) (Nat.le_trans (bits_le hb) (by decide))
theorem log_ok {m : Int} (h : 0 < m) (h2 : m ≤ 2 ^ 64) : m.natAbs.log2 < 9000 := by
  have h1 : m.natAbs ≠ 0 := by omega
  exact Nat.lt_of_lt_of_le ((Nat.log2_lt h1).mpr (show m.natAbs < 2 ^ 65 by omega)) (by decide)
local macro_rules | `(tactic| walk_at "sd") => `(tactic| first | assumption | (exact ⟨by decide, by decide, by decide⟩) | (exact ⟨by assumption, by assumption⟩) | (exact ⟨by decide, by decide +kernel⟩) | (show (0 : Int) < _; decide))
local macro_rules | `(tactic| walk_at "hp") => `(tactic| first | assumption | exact upd_same)
local macro_rules | `(tactic| walk_at "vc") => `(tactic| repeat (first | refine ⟨_, rfl, ?_⟩ | refine ⟨_, _, rfl, rfl, ?_⟩ | refine ⟨_, _, rfl, ?_⟩ | refine ⟨_, _, _, _, rfl, rfl, SqL.of (by walk_at "hp"), rfl, ?_⟩ | refine ⟨_, _, _, _, rfl, rfl, (by walk_at "hp"), rfl, ?_⟩ | refine And.intro (by walk_at "sd") ?_))
theorem seq_step {t u : TS} {D : Ends} (S S' : St → Hp → Prop) (h1 : ∀ σ H, S σ H → ∀ N : St → Hp → Prop, (∀ σ' H', S' σ' H' → N σ' H') → t { D with nx := N } σ H) (h2 : ∀ σ' H', S' σ' H' → u D σ' H') : ∀ σ H, S σ H → tSeq t u D σ H :=
  fun σ H s => h1 σ H s _ h2
theorem bit_snoc {l : List Nat} {r : Nat} (h : Bit l) (hr : r ≤ 1) : Bit (l ++ [r]) := fun b hb => by
  rcases List.mem_append.mp hb with z | z
  · exact h b z
  · rw [List.mem_singleton.mp z]; exact hr
theorem ln0 {α : Type} {P : List α → Prop} (us : List α) (h : us.length = 0) (k : P []) : P us := by
  rw [List.eq_nil_of_length_eq_zero h]; exact k
theorem lnS {α : Type} {P : List α → Prop} {n : Nat} (us : List α) (h : us.length = n + 1) (k : ∀ a (r : List α), r.length = n → P (a :: r)) : P us := by
  cases us with
  | nil => cases h
  | cons a r => exact k a r (Nat.succ.inj h)
theorem ln1 {α : Type} {P : List α → Prop} (us : List α) (h : us.length = 1) (k : ∀ a, P [a]) : P us := lnS us h fun a r h => ln0 (P := fun r => P (a :: r)) r h (k a)
theorem ln2 {α : Type} {P : List α → Prop} (us : List α) (h : us.length = 2) (k : ∀ a b, P [a, b]) : P us := lnS us h fun a r h => ln1 (P := fun r => P (a :: r)) r h (k a)
theorem ln3 {α : Type} {P : List α → Prop} (us : List α) (h : us.length = 3) (k : ∀ a b c, P [a, b, c]) : P us := lnS us h fun a r h => ln2 (P := fun r => P (a :: r)) r h (k a)
theorem ln4 {α : Type} {P : List α → Prop} (us : List α) (h : us.length = 4) (k : ∀ a b c d, P [a, b, c, d]) : P us := lnS us h fun a r h => ln3 (P := fun r => P (a :: r)) r h (k a)
theorem cut_take {xs : List V} {m : Nat} (h : m ≤ xs.length) : cutV xs none (some (m : Int)) = xs.take m := by
  unfold cutV HT.sIx
  have e : ((m : Int)).toNat = m := by omega
  simp only [List.drop_zero, Nat.sub_zero]
  split
  · omega
  · rw [e, Nat.min_eq_left h]
theorem at_heap {P : Hp → Prop} {Hr : Hp} (R : Hp → Prop) (hr : R Hr) (h : ∀ H', R H' → P H') : P Hr := h _ hr
theorem vN_at' {l : List Nat} {i v : Nat} (h : l[i]? = some v) : (vN l)[i]? = some (V.int (v : Int)) := by unfold vN; rw [List.getElem?_map, h]; rfl

/-! ### rows -/
def mulL : List Nat → List Nat → List Nat
  | a :: r, b :: s => (a * b) :: mulL r s
  | _, _ => []
def spShared : Sp := fun vs H Q _ => ∃ a b : Nat, vs = [.int (a : Int), .int (b : Int)] ∧ ∀ H', Same H H' → Q (.int (num (mulL (bitsL a 16) (bitsL b 16)) : Int)) H'
/-- mask, want, inner by their bits: no want and no inner where it must not be -/
structure RowBits (m : Nat) (lm lw li : List Nat) : Prop where
  m0 : lm.length = m
  w0 : lw.length = m
  i0 : li.length = m
  mb : Bit lm
  wb : Bit lw
  ib : Bit li
  wm : ∀ (k a b : Nat), lm[k]? = some a → lw[k]? = some b → b ≤ a
  im : ∀ (k a b : Nat), lm[k]? = some a → li[k]? = some b → a + b ≤ 1
def LatchAt (H : Hp) (v : V) : Prop := v = .non ∨ ∃ (u : Addr) (c a b : Nat), v = .ref u ∧ H u = some (.tup [.int (c : Int), .int (a : Int), .int (num (mulL (bitsL a 16) (bitsL b 16)) : Int)]) ∧ c < 100 ∧ a < 256 ∧ b < 256
def spRow : Sp := fun vs H Q _ => ∃ (p : Addr) (m n : Nat), vs = [.ref p, .int (m : Int)] ∧ FeedAt H p n ∧ n + 1000 < 2 ^ 40 ∧ 1 ≤ m ∧ m ≤ 16 ∧
  ∀ (t : Addr) (H' : Hp) (lm lw li : List Nat) (c : Nat) (lt : V), RowBits m lm lw li → c < 100 → LatchAt H' lt → t ≠ p → H' t = some (.tup [.int (num lm : Int), .int (num lw : Int), .int (num li : Int), .int (c : Int), lt]) → FeedAt H' p (n + 1000) → KeepP p H H' → Q (.ref t) H'
theorem get_snoc {α : Type} {l : List α} {x y : α} {k : Nat} (h : (l ++ [x])[k]? = some y) : l[k]? = some y ∨ (k = l.length ∧ y = x) := by
  rcases Nat.lt_trichotomy k l.length with z | z | z
  · rw [List.getElem?_append_left z] at h; exact .inl h
  · subst z; simp at h; exact .inr ⟨rfl, h.symm⟩
  · rw [List.getElem?_eq_none (by simp; omega)] at h; cases h
theorem land_two (n s : Nat) : n &&& (2 * s) = 2 * ((n / 2) &&& s) := by
  rcases Nat.mod_two_eq_zero_or_one n with h | h
  · rw [show n = 2 * (n / 2) by omega, land_even, show 2 * (n / 2) / 2 = n / 2 by omega]
  · rw [show n = 2 * (n / 2) + 1 by omega, land_oe, show (2 * (n / 2) + 1) / 2 = n / 2 by omega]
theorem land_two1 (n s : Nat) : n &&& (2 * s + 1) = n % 2 + 2 * ((n / 2) &&& s) := by
  rcases Nat.mod_two_eq_zero_or_one n with h | h
  · rw [show n = 2 * (n / 2) by omega, land_eo, show 2 * (n / 2) / 2 = n / 2 by omega]; omega
  · rw [show n = 2 * (n / 2) + 1 by omega, land_odd, show (2 * (n / 2) + 1) / 2 = n / 2 by omega]; omega
theorem num_mulL : ∀ k a b, a < 2 ^ k → num (mulL (bitsL a k) (bitsL b k)) = a &&& b
  | 0, a, b, h => by simp at h; subst h; simp [bitsL, mulL, num]
  | k + 1, a, b, h => by
    have ih := num_mulL k (a / 2) (b / 2) (by rw [Nat.pow_succ] at h; omega)
    simp only [bitsL, mulL, num]
    rw [ih]
    rcases Nat.mod_two_eq_zero_or_one b with h1 | h1
    · conv => rhs; rw [show b = 2 * (b / 2) by omega, land_two]
      rw [h1]; omega
    · conv => rhs; rw [show b = 2 * (b / 2) + 1 by omega, land_two1]
      rw [h1]; omega
/-! ### things of any kind -/
inductive D where
  | non | bl (b : Bool) | int (i : Int) | str | oth | tup (l : List D)
/-- what stands at v (a list or a dict is just one), but for what stands at p -/
inductive Dv (p : Addr) (H : Hp) : V → D → Prop where
  | non : Dv p H .non .non
  | bl (b : Bool) : Dv p H (.bl b) (.bl b)
  | int (i : Int) : Dv p H (.int i) (.int i)
  | str (x : Str) : Dv p H (.str x) .str
  | lst {a : Addr} {xs : List V} (e : H a = some (.lst xs)) (ha : a ≠ p) : Dv p H (.ref a) .oth
  | dic {a : Addr} {kvs : List (Key × V)} (e : H a = some (.dK kvs)) (ha : a ≠ p) : Dv p H (.ref a) .oth
  | tup {a : Addr} {xs : List V} {ds : List D} (e : H a = some (.tup xs)) (ha : a ≠ p) (hl : xs.length = ds.length) (h : ∀ (i : Nat) (x : V) (d : D), xs[i]? = some x → ds[i]? = some d → Dv p H x d) : Dv p H (.ref a) (.tup ds)
/-- numbers and lengths in bounds -/
inductive Sm : D → Prop where
  | non : Sm .non
  | bl (b : Bool) : Sm (.bl b)
  | str : Sm .str
  | oth : Sm .oth
  | int (i : Int) (h : i.natAbs < 2 ^ 70) : Sm (.int i)
  | tup {l : List D} (hl : l.length ≤ 70) (h : ∀ (i : Nat) (d : D), l[i]? = some d → Sm d) : Sm (.tup l)
def tl : D → Nat
  | .tup l => l.length
  | _ => 0
def Gd (p : Addr) (H : Hp) (v : V) : Prop := ∃ d, Dv p H v d ∧ tl d ≤ 300
def isI : D → Bool
  | .int _ => true
  | .bl _ => true
  | _ => false
def isB : D → Bool
  | .bl _ => true
  | _ => false
def isT : D → Bool
  | .tup _ => true
  | _ => false
/-! ### rows, as both sides tell them -/
def numD (last : Int) : D → Bool
  | .int i => decide (0 ≤ i ∧ i ≤ last)
  | _ => false
def natD : D → Nat
  | .int i => i.toNat
  | _ => 0
def chD (last : Int) (m w : D) : Bool := numD last m && numD last w && decide (natD w &&& natD m = natD w)
def latD : D → Bool
  | .tup [c, m, w] => numD 99 c && chD 255 m w
  | _ => false
def latN : D → Bool
  | .non => true
  | d => latD d
def rowD (last : Int) : D → Bool
  | .tup [m, w, i, c, l] => chD last m w && numD last i && decide (natD i &&& natD m = 0) && numD 99 c && latN l
  | _ => false
def spIsNumD : Sp := fun vs H Q _ => ∃ p v d last, vs = [v, .int last] ∧ Dv p H v d ∧ Q (.bl (numD last d)) H
def spChoice : Sp := fun vs H Q _ => ∃ p v w d e last, vs = [v, w, .int last] ∧ Dv p H v d ∧ Dv p H w e ∧ Q (.bl (chD last d e)) H
def spLatD : Sp := fun vs H Q _ => ∃ p v d, vs = [v] ∧ Dv p H v d ∧ Q (.bl (latD d)) H
def spRowD : Sp := fun vs H Q _ => ∃ p v d, ∃ n : Nat, vs = [.int (n : Int), v] ∧ Dv p H v d ∧ 1 ≤ n ∧ n ≤ 16 ∧ ∀ H', Same H H' → Q (.bl (rowD (2 ^ n - 1) d)) H'
def spSize : Sp := fun vs H Q _ => ∃ n : Nat, vs = [.int (n : Int)] ∧ n ≤ 16 ∧ Q (.int (2 ^ n)) H
def spAll : Sp := fun vs H Q _ => ∃ n : Nat, vs = [.int (n : Int)] ∧ n ≤ 16 ∧ ∀ H', Same H H' → Q (.int (2 ^ n - 1)) H'
def spBelow : Sp := fun vs H Q _ => ∃ p v d last, vs = [v, .int (last + 1)] ∧ Dv p H v d ∧ Q (.bl (numD last d)) H
def spOther : Sp := fun vs H Q _ => ∃ (p : Addr) (n : Nat) (v : V) (d : D), vs = [.ref p, v] ∧ FeedAt H p n ∧ n + 10 < 2 ^ 40 ∧ Dv p H v d ∧ Sm d ∧ ∀ v' H', FeedAt H' p (n + 10) → KeepP p H H' → Gd p H' v' → Q v' H'
def spSpoilt (m : Nat) : Sp := fun vs H Q _ => ∃ (p : Addr) (n : Nat) (v : V) (d : D), vs = [.ref p, v, .int (m : Int)] ∧ FeedAt H p n ∧ n + 12 * m + 12 < 2 ^ 40 ∧ Dv p H v d ∧ Sm d ∧ ∀ v' H', FeedAt H' p (n + 12 * m + 12) → KeepP p H H' → Gd p H' v' → Q v' H'
/-- a tuple of at most k things -/
def Tp (p : Addr) (H : Hp) (k : Nat) (v : V) : Prop := ∃ b ys, v = .ref b ∧ H b = some (.tup ys) ∧ b ≠ p ∧ ys.length ≤ k ∧ ∀ y ∈ ys, Gd p H y
/-! ### rows that clash -/
theorem bit_step (op : Nat → Nat → Nat) (f : Bool → Bool → Bool) (hop : ∀ a b i, (op a b).testBit i = f (a.testBit i) (b.testBit i)) (hf : f false false = false) (x y : Nat) :
    op x y = (f (x % 2 == 1) (y % 2 == 1)).toNat + 2 * op (x / 2) (y / 2) := by
  apply Nat.eq_of_testBit_eq
  intro i
  cases i with
  | zero =>
    rw [hop]
    simp only [Nat.testBit_zero]
    cases h : f (x % 2 == 1) (y % 2 == 1) <;> simp_all [Nat.add_mod]
  | succ i =>
    rw [hop]
    simp only [Nat.testBit_succ]
    rw [show ((f (x % 2 == 1) (y % 2 == 1)).toNat + 2 * op (x / 2) (y / 2)) / 2 = op (x / 2) (y / 2) by cases f (x % 2 == 1) (y % 2 == 1) <;> simp <;> omega, hop]
theorem or_is : ∀ a b : Nat, a ||| b = (a ^^^ b) + (a &&& b) := by
  intro a
  induction a using Nat.strongRecOn with
  | _ a ih =>
    intro b
    by_cases h0 : a = 0
    · subst h0; simp
    have e1 : a ||| b = ((a % 2 == 1) || (b % 2 == 1)).toNat + 2 * (a / 2 ||| b / 2) := bit_step (· ||| ·) (· || ·) Nat.testBit_or rfl a b
    have e2 : a ^^^ b = (Bool.xor (a % 2 == 1) (b % 2 == 1)).toNat + 2 * (a / 2 ^^^ b / 2) := bit_step (· ^^^ ·) Bool.xor Nat.testBit_xor rfl a b
    have e3 : a &&& b = ((a % 2 == 1) && (b % 2 == 1)).toNat + 2 * (a / 2 &&& b / 2) := bit_step (· &&& ·) (· && ·) Nat.testBit_and rfl a b
    have e4 := ih (a / 2) (by omega) (b / 2)
    rw [e1, e2, e3, e4]
    cases (a % 2 == 1) <;> cases (b % 2 == 1) <;> simp <;> omega
theorem bor (a b : Nat) : Builtin.bitOr (a : Int) (b : Int) = ((a ||| b : Nat) : Int) := by
  unfold Builtin.bitOr Builtin.bitAnd Builtin.bitNot
  rw [decide_eq_false (show ¬ (0 : Int) ≤ -(a : Int) - 1 by omega), decide_eq_false (show ¬ (0 : Int) ≤ -(b : Int) - 1 by omega)]
  show -(-((((-(-(a : Int) - 1) - 1).toNat ||| (-(-(b : Int) - 1) - 1).toNat : Nat)) : Int) - 1) - 1 = _
  rw [show -(-(a : Int) - 1) - 1 = (a : Int) by omega, show -(-(b : Int) - 1) - 1 = (b : Int) by omega, Int.toNat_natCast, Int.toNat_natCast]
  omega
theorem bxor (a b : Nat) : Builtin.bitXor (a : Int) (b : Int) = ((a ^^^ b : Nat) : Int) := by
  unfold Builtin.bitXor
  rw [bor, band, or_is]
  omega
/-- two choices (mask, want) agree where both ask -/
def agr (m w n v : Nat) : Bool := decide ((w ^^^ v) &&& m &&& n = 0)
def spAgr : Sp := fun vs H Q _ => ∃ m w n v : Nat, vs = [.int (m : Int), .int (w : Int), .int (n : Int), .int (v : Int)] ∧ Q (.bl (agr m w n v)) H
/-- a latch as it stands: None, or a tuple of three -/
def LatV (H : Hp) (v : V) : Option (Nat × Nat × Nat) → Prop
  | none => v = .non
  | some (c, a, b) => ∃ u : Addr, v = .ref u ∧ H u = some (.tup [.int (c : Int), .int (a : Int), .int (b : Int)])
def latA : Option (Nat × Nat × Nat) → Option (Nat × Nat × Nat) → Bool
  | some (c, a, b), some (d, x, y) => if c = d then agr a b x y else true
  | _, _ => true
def spLatA : Sp := fun vs H Q _ => ∃ x y o p, vs = [x, y] ∧ LatV H x o ∧ LatV H y p ∧ Q (.bl (latA o p)) H
/-- a row by its parts -/
structure Rw where
  m : Nat
  w : Nat
  i : Nat
  c : Nat
  l : Option (Nat × Nat × Nat)
def RwAt (H : Hp) (t : Addr) (r : Rw) : Prop := ∃ lt : V, H t = some (.tup [.int (r.m : Int), .int (r.w : Int), .int (r.i : Int), .int (r.c : Int), lt]) ∧ LatV H lt r.l
def clash (r q : Rw) : Bool := agr r.m r.w q.m q.w && latA r.l q.l
def spClash : Sp := fun vs H Q _ => ∃ t u r q, vs = [.ref t, .ref u] ∧ RwAt H t r ∧ RwAt H u q ∧ Q (.bl (clash r q)) H
theorem bt_sorted : bootBuiltins "sorted" = some (.builtin "sorted") := by decide +kernel
/-- the least words that the latches of two rows ask -/
def lwL : Option (Nat × Nat × Nat) → Option (Nat × Nat × Nat) → List (Int × Int)
  | none, none => []
  | some (c, _, b), none => [((c : Int), (b : Int))]
  | none, some (d, _, y) => [((d : Int), (y : Int))]
  | some (c, _, b), some (d, _, y) => if c = d then [((c : Int), ((b ||| y : Nat) : Int))] else srt2 [((c : Int), (b : Int)), ((d : Int), (y : Int))]
/-- a tuple of pairs of numbers at p -/
def PrsAt (H : Hp) (p : Addr) (l : List (Int × Int)) : Prop := ∃ ts : List Addr, H p = some (.tup (ts.map V.ref)) ∧ ts.length = l.length ∧ ∀ (j : Nat) (t : Addr) (q : Int × Int), ts[j]? = some t → l[j]? = some q → H t = some (.tup [.int q.1, .int q.2])
def spLeast : Sp := fun vs H Q _ => ∃ t u r q, vs = [.ref t, .ref u] ∧ RwAt H t r ∧ RwAt H u q ∧ ∀ (p : Addr) (H' : Hp), H p = none → PrsAt H' p (lwL r.l q.l) → Same H H' → Q (.ref p) H'
theorem LatV.same {H H' : Hp} {v : V} {o : Option (Nat × Nat × Nat)} (h : LatV H v o) (s : Same H H') : LatV H' v o := by
  match o, h with
  | none, h => exact h
  | some (c, a, b), ⟨u, e, eu⟩ => exact ⟨u, e, s _ _ eu⟩
theorem RwAt.same {H H' : Hp} {t : Addr} {r : Rw} (h : RwAt H t r) (s : Same H H') : RwAt H' t r := by
  obtain ⟨lt, e, hl⟩ := h
  exact ⟨lt, s _ _ e, hl.same s⟩
def dOne : Option (Nat × Nat × Nat) → List (Nat × Nat)
  | none => []
  | some (c, _, b) => [(c, b)]
def dPut (l : List (Nat × Nat)) : Option (Nat × Nat × Nat) → List (Nat × Nat)
  | none => l
  | some (c, _, b) => match l with
    | [] => [(c, b)]
    | (d, y) :: _ => if d = c then [(c, y ||| b)] else [(d, y), (c, b)]
def knN (l : List (Nat × Nat)) : List (Int × Int) := l.map fun q => ((q.1 : Int), (q.2 : Int))
theorem lw_is : ∀ o p : Option (Nat × Nat × Nat), srt2 (knN (dPut (dOne o) p)) = lwL o p
  | none, none => rfl
  | some (c, _, b), none => rfl
  | none, some (d, _, y) => rfl
  | some (c, _, b), some (d, _, y) => by
    show srt2 (knN (if c = d then [(d, b ||| y)] else [(c, b), (d, y)])) = if c = d then [((c : Int), ((b ||| y : Nat) : Int))] else srt2 [((c : Int), (b : Int)), ((d : Int), (y : Int))]
    by_cases h : c = d
    · rw [if_pos h, if_pos h, h]; rfl
    · rw [if_neg h, if_neg h]; rfl
theorem dPut_nodup (o p : Option (Nat × Nat × Nat)) : ((knN (dPut (dOne o) p)).map (·.1)).Nodup := by
  match o, p with
  | none, none => simp [dPut, dOne, knN]
  | some (c, _, b), none => simp [dPut, dOne, knN]
  | none, some (d, _, y) => simp [dPut, dOne, knN]
  | some (c, _, b), some (d, _, y) =>
    show ((knN (if c = d then [(d, b ||| y)] else [(c, b), (d, y)])).map (·.1)).Nodup
    by_cases h : c = d
    · rw [if_pos h]; simp [knN]
    · rw [if_neg h]; simp [knN]; omega
theorem dPut_len (o p : Option (Nat × Nat × Nat)) : (knN (dPut (dOne o) p)).length ≤ 2 := by
  match o, p with
  | none, none => simp [dPut, dOne, knN]
  | some (c, _, b), none => simp [dPut, dOne, knN]
  | none, some (d, _, y) => simp [dPut, dOne, knN]
  | some (c, _, b), some (d, _, y) =>
    show (knN (if c = d then [(d, b ||| y)] else [(c, b), (d, y)])).length ≤ 2
    by_cases h : c = d
    · rw [if_pos h]; simp [knN]
    · rw [if_neg h]; simp [knN]
/-- least[c] = least.get(c, 0) | b, one entry at most ahead -/
theorem put_is {l : List (Nat × Nat)} (hl : l.length ≤ 1) (c a b : Nat) : ∃ n : Nat, (valV (knV (knN l)) (Sum.inl (c : Int))).getD (.int 0) = .int (n : Int) ∧ putK (knV (knN l)) (Sum.inl (c : Int)) (.int ((n ||| b : Nat) : Int)) = knV (knN (dPut l (some (c, a, b)))) := by
  match l, hl with
  | [], _ => exact ⟨0, rfl, by simp [putK, knV, knN, dPut]⟩
  | [(d, y)], _ =>
    by_cases h : d = c
    · subst h
      refine ⟨y, by simp [valV, knV, knN], by simp [putK, knV, knN, dPut]⟩
    · have h' : ¬ (d : Int) = (c : Int) := by omega
      refine ⟨0, by simp [valV, knV, knN, h', List.find?], by simp [putK, knV, knN, dPut, h, h']⟩
  | _ :: _ :: _, hl => simp at hl
theorem same_none {H H' : Hp} {p : Addr} (s : Same H H') (h : H' p = none) : H p = none := by
  cases e : H p with
  | none => rfl
  | some o => rw [s _ _ e] at h; cases h
/-- the rows of a map, as they stand -/
def RwsAt (K : PySem.W.Frag) (H : Hp) (p : Addr) (as : List Addr) (rs : List Rw) : Prop := H p = some (.tup (as.map V.ref)) ∧ as.length = rs.length ∧ ∀ (j : Nat) (a : Addr) (r : Rw), as[j]? = some a → rs[j]? = some r → RwAt H a r
def fnd1 (rs : List Rw) (i j : Nat) : List (List Int) := match rs[i]?, rs[j]? with
  | some r, some q => if clash r q = true then [[((r.w ||| q.w : Nat) : Int), (i : Int), (j : Int)]] else []
  | _, _ => []
def fndR (rs : List Rw) (j m : Nat) : List (List Int) := (List.range m).flatMap fun i => fnd1 rs i j
def fndL (rs : List Rw) (m : Nat) : List (List Int) := (List.range m).flatMap fun j => fndR rs j j
theorem fndR_succ (rs : List Rw) (j m : Nat) : fndR rs j (m + 1) = fndR rs j m ++ fnd1 rs m j := by
  unfold fndR; rw [List.range_succ, List.flatMap_append]; simp
theorem fndL_succ (rs : List Rw) (m : Nat) : fndL rs (m + 1) = fndL rs m ++ fndR rs m m := by
  unfold fndL; rw [List.range_succ, List.flatMap_append]; simp
theorem fnd1_len (rs : List Rw) (i j : Nat) : (fnd1 rs i j).length ≤ 1 := by
  unfold fnd1
  split
  · split <;> simp
  · simp
theorem fndR_len (rs : List Rw) (j : Nat) : ∀ m, (fndR rs j m).length ≤ m
  | 0 => by simp [fndR]
  | m + 1 => by
    have := fndR_len rs j m
    have := fnd1_len rs m j
    rw [fndR_succ, List.length_append]; omega
theorem fndL_len (rs : List Rw) : ∀ m, (fndL rs m).length ≤ m * m
  | 0 => by simp [fndL]
  | m + 1 => by
    have := fndL_len rs m
    have := fndR_len rs m m
    rw [fndL_succ, List.length_append, Nat.add_mul, Nat.mul_add]; omega
def FndAt (X : Hp) (ts : List Addr) (nss : List (List Int)) : Prop := ts.length = nss.length ∧ ∀ (i : Nat) (t : Addr) (ns : List Int), ts[i]? = some t → nss[i]? = some ns → X t = some (.tup (ns.map V.int))
theorem FndAt.same {X Y : Hp} {ts : List Addr} {nss : List (List Int)} (h : FndAt X ts nss) (s : Same X Y) : FndAt Y ts nss := ⟨h.1, fun i t ns e1 e2 => s _ _ (h.2 i t ns e1 e2)⟩
theorem FndAt.snoc {X Y : Hp} {ts : List Addr} {nss : List (List Int)} {t : Addr} {ns : List Int} (h : FndAt Y ts nss) (ht : Y t = some (.tup (ns.map V.int))) : FndAt Y (ts ++ [t]) (nss ++ [ns]) := by
  refine ⟨by rw [List.length_append, List.length_append, h.1]; rfl, fun i t' ns' e1 e2 => ?_⟩
  rcases get_snoc e1 with z | ⟨z1, rfl⟩
  · rcases get_snoc e2 with y | ⟨y1, rfl⟩
    · exact h.2 i t' ns' z y
    · have := (List.getElem?_eq_some_iff.mp z).1
      have := h.1
      omega
  · rcases get_snoc e2 with y | ⟨y1, rfl⟩
    · have := (List.getElem?_eq_some_iff.mp y).1
      have := h.1
      omega
    · exact ht
def spClashOf : Sp := fun vs H Q _ => ∃ (p : Addr) (as : List Addr) (rs : List Rw), vs = [.ref p] ∧ H p = some (.tup (as.map V.ref)) ∧ as.length = rs.length ∧ rs.length ≤ 100 ∧ (∀ (j : Nat) (a : Addr) (r : Rw), as[j]? = some a → rs[j]? = some r → RwAt H a r) ∧
  (fndL rs rs.length = [] → ∀ H', Same H H' → Q .non H') ∧
  (∀ (x : Nat) (i j : Nat) (r q : Rw), (fndL rs rs.length)[PySem.argBest (fun i j => HT.lexLt ((fndL rs rs.length).getD i []) ((fndL rs rs.length).getD j [])) ((fndL rs rs.length).length - 1)]? = some [(x : Int), (i : Int), (j : Int)] → rs[i]? = some r → rs[j]? = some q →
    ∀ (tp wp : Addr) (H' : Hp), H tp = none → H' tp = some (.tup [.int (x : Int), .int (i : Int), .int (j : Int), .ref wp]) → PrsAt H' wp (lwL r.l q.l) → Same H H' → Q (.ref tp) H')
theorem fnd1_mem {rs : List Rw} {i j : Nat} {ns : List Int} (h : ns ∈ fnd1 rs i j) : ∃ (r q : Rw) (x : Nat), rs[i]? = some r ∧ rs[j]? = some q ∧ ns = [(x : Int), (i : Int), (j : Int)] := by
  unfold fnd1 at h
  split at h
  · rename_i r q e1 e2
    split at h
    · exact ⟨r, q, _, e1, e2, List.mem_singleton.mp h⟩
    · simp at h
  · simp at h
theorem fndL_mem {rs : List Rw} {m : Nat} {ns : List Int} (h : ns ∈ fndL rs m) : ∃ (i j : Nat) (r q : Rw) (x : Nat), rs[i]? = some r ∧ rs[j]? = some q ∧ ns = [(x : Int), (i : Int), (j : Int)] := by
  unfold fndL at h
  obtain ⟨j, _, h⟩ := List.mem_flatMap.mp h
  unfold fndR at h
  obtain ⟨i, _, h⟩ := List.mem_flatMap.mp h
  obtain ⟨r, q, x, e⟩ := fnd1_mem h
  exact ⟨i, j, r, q, x, e⟩
theorem best_lt (bt : Nat → Nat → Bool) : ∀ n, PySem.argBest bt n ≤ n
  | 0 => Nat.le_refl _
  | n + 1 => by
    have := best_lt bt n
    show (if bt (n + 1) (PySem.argBest bt n) = true then n + 1 else PySem.argBest bt n) ≤ n + 1
    split <;> omega
/-! ### rows as the laws of clashes draw them -/
def LatOk : Option (Nat × Nat × Nat) → Prop
  | none => True
  | some (c, a, b) => c < 100 ∧ a < 256 ∧ b &&& a = b
structure RwOk (m : Nat) (r : Rw) : Prop where
  m0 : r.m < 2 ^ m
  w0 : r.w < 2 ^ m
  wm : r.w &&& r.m = r.w
  i0 : r.i < 2 ^ m
  im : r.i &&& r.m = 0
  c0 : r.c < 100
  l0 : LatOk r.l
theorem mulL_le : ∀ (la lb : List Nat), la.length = lb.length → Bit lb → (∀ (k a b : Nat), lb[k]? = some a → la[k]? = some b → b ≤ a) → mulL la lb = la
  | [], _, _, _, _ => by simp [mulL]
  | x :: la, [], h, _, _ => by simp at h
  | x :: la, y :: lb, h, hb, hk => by
    have h1 : x ≤ y := hk 0 y x rfl rfl
    have h2 : y ≤ 1 := hb y List.mem_cons_self
    have ih := mulL_le la lb (by simpa using h) (fun z hz => hb z (List.mem_cons_of_mem _ hz)) fun k a b e1 e2 => hk (k + 1) a b (by simpa using e1) (by simpa using e2)
    simp only [mulL, ih]
    rcases (show y = 0 ∨ y = 1 by omega) with rfl | rfl
    · rw [show x = 0 by omega]
    · rw [Nat.mul_one]
theorem num_and {la lb : List Nat} (h : la.length = lb.length) (ha : Bit la) (hb : Bit lb) : num la &&& num lb = num (mulL la lb) := by
  have e1 := bitsL_num la ha
  have e2 := bitsL_num lb hb
  rw [← h] at e2
  rw [← num_mulL la.length (num la) (num lb) (num_lt la ha), e1, e2]
theorem num_sub {la lb : List Nat} (h : la.length = lb.length) (ha : Bit la) (hb : Bit lb) (hk : ∀ (k a b : Nat), lb[k]? = some a → la[k]? = some b → b ≤ a) : num la &&& num lb = num la := by
  rw [num_and h ha hb, mulL_le la lb h hb hk]
theorem LatV.keep {p : Addr} {n : Nat} {H H' : Hp} {v : V} {o : Option (Nat × Nat × Nat)} (h : LatV H v o) (f : FeedAt H p n) (k : KeepP p H H') : LatV H' v o := by
  match o, h with
  | none, h => exact h
  | some (c, a, b), ⟨u, e, eu⟩ =>
    refine ⟨u, e, k _ _ (fun z => ?_) eu⟩
    obtain ⟨_, _, _, e', _⟩ := f
    rw [z, e'] at eu; cases eu
theorem RwAt.ne {p t : Addr} {n : Nat} {H : Hp} {r : Rw} (h : RwAt H t r) (f : FeedAt H p n) : t ≠ p := fun z => by
  obtain ⟨lt, e, _⟩ := h
  obtain ⟨_, _, _, e', _⟩ := f
  rw [z, e'] at e; cases e
theorem RwAt.keep {p t : Addr} {n : Nat} {H H' : Hp} {r : Rw} (h : RwAt H t r) (f : FeedAt H p n) (k : KeepP p H H') : RwAt H' t r := by
  have hn := h.ne f
  obtain ⟨lt, e, hl⟩ := h
  exact ⟨lt, k _ _ hn e, hl.keep f k⟩
def spLatch : Sp := fun vs H Q _ => ∃ (p : Addr) (lt : V) (n : Nat) (o : Option (Nat × Nat × Nat)), vs = [.ref p, lt] ∧ FeedAt H p n ∧ n + 100 < 2 ^ 40 ∧ LatV H lt o ∧ LatOk o ∧
  ∀ (v : V) (H' : Hp) (o' : Option (Nat × Nat × Nat)), LatV H' v o' → LatOk o' → FeedAt H' p (n + 100) → KeepP p H H' → Q v H'
def spNear : Sp := fun vs H Q _ => ∃ (p t : Addr) (m n : Nat) (r : Rw), vs = [.ref p, .int (m : Int), .ref t] ∧ FeedAt H p n ∧ n + 1000 < 2 ^ 40 ∧ 1 ≤ m ∧ m ≤ 16 ∧ RwAt H t r ∧ RwOk m r ∧
  ∀ (t' : Addr) (H' : Hp) (q : Rw), RwAt H' t' q → RwOk m q → FeedAt H' p (n + 1000) → KeepP p H H' → Q (.ref t') H'
/-! ### the least address that two rows meet -/
def spMeeting : Sp := fun vs H Q _ => ∃ (m : Nat) (t u : Addr) (r q : Rw), vs = [.int (m : Int), .ref t, .ref u] ∧ m ≤ 16 ∧ RwAt H t r ∧ RwAt H u q ∧ RwOk m r ∧ RwOk m q ∧
  (agr r.m r.w q.m q.w = false → ∀ H', Same H H' → Q .non H') ∧ (agr r.m r.w q.m q.w = true → ∀ H', Same H H' → Q (.int ((r.w ||| q.w : Nat) : Int)) H')
/-! ### the least words by which two rows answer, found by trying -/
def Fits (ls : List (Nat × Nat × Nat)) (c w : Nat) : Prop := ∀ z ∈ ls, z.1 = c → w &&& z.2.1 = z.2.2
def Least (ls : List (Nat × Nat × Nat)) (c w : Nat) : Prop := Fits ls c w ∧ ∀ v, v < w → ¬ Fits ls c v
def lats (o p : Option (Nat × Nat × Nat)) : List (Nat × Nat × Nat) := o.toList ++ p.toList
def spAsking : Sp := fun vs H Q _ => ∃ (t u : Addr) (r q : Rw), vs = [.ref t, .ref u] ∧ RwAt H t r ∧ RwAt H u q ∧ LatOk r.l ∧ LatOk q.l ∧
  (latA r.l q.l = false → ∀ H', Same H H' → Q .non H') ∧ (latA r.l q.l = true → ∀ (p : Addr) (H' : Hp), H p = none → PrsAt H' p (lwL r.l q.l) → Same H H' → Q (.ref p) H')
/-- latches (tuples of three) at as -/
def LatsAt (H : Hp) (as : List Addr) (ls : List (Nat × Nat × Nat)) : Prop := as.length = ls.length ∧ ∀ (j : Nat) (a : Addr) (z : Nat × Nat × Nat), as[j]? = some a → ls[j]? = some z → H a = some (.tup [.int (z.1 : Int), .int (z.2.1 : Int), .int (z.2.2 : Int)])
theorem LatsAt.same {H H' : Hp} {as : List Addr} {ls : List (Nat × Nat × Nat)} (h : LatsAt H as ls) (s : Same H H') : LatsAt H' as ls := ⟨h.1, fun j a z e1 e2 => s _ _ (h.2 j a z e1 e2)⟩
theorem LatsAt.snoc {H : Hp} {as : List Addr} {ls : List (Nat × Nat × Nat)} {a : Addr} {z : Nat × Nat × Nat} (h : LatsAt H as ls) (e : H a = some (.tup [.int (z.1 : Int), .int (z.2.1 : Int), .int (z.2.2 : Int)])) : LatsAt H (as ++ [a]) (ls ++ [z]) := by
  refine ⟨by rw [List.length_append, List.length_append, h.1]; rfl, fun j b y e1 e2 => ?_⟩
  have := h.1
  rcases get_snoc e1 with q | ⟨q1, rfl⟩
  · rcases get_snoc e2 with q' | ⟨q1', rfl⟩
    · exact h.2 j b y q q'
    · have := (List.getElem?_eq_some_iff.mp q).1; omega
  · rcases get_snoc e2 with q' | ⟨q1', rfl⟩
    · have := (List.getElem?_eq_some_iff.mp q').1; omega
    · exact e
/-- a dict from numbers -/
def dN (keys : List Nat) (f : Nat → V) : List (Key × V) := keys.map fun (c : Nat) => (Sum.inl (c : Int), f c)
theorem dN_val {f : Nat → V} {c : Nat} : ∀ {keys : List Nat}, c ∈ keys → valV (dN keys f) (Sum.inl (c : Int)) = some (f c)
  | [], h => nomatch h
  | k :: keys, h => by
    unfold valV dN
    rw [List.map_cons, List.find?_cons]
    by_cases z : k = c
    · subst z; simp
    · have e : decide ((Sum.inl (k : Int) : Key) = Sum.inl (c : Int)) = false := decide_eq_false fun y => z (by injection y with y; exact Int.ofNat.inj y)
      simp only [e]
      exact dN_val (keys := keys) ((List.mem_cons.mp h).resolve_left (fun y => z y.symm))
theorem sk_one {sk : List Nat} {c : Nat} (h : ∀ k, k ∈ sk ↔ k = c) (nd : sk.Nodup) : sk = [c] := by
  match sk with
  | [] => exact absurd ((h c).mpr rfl) (fun z => nomatch z)
  | [k] => rw [(h k).mp List.mem_cons_self]
  | k :: l :: r =>
    have h1 := (h k).mp List.mem_cons_self
    have h2 := (h l).mp (List.mem_cons_of_mem _ List.mem_cons_self)
    rw [List.nodup_cons] at nd
    exact absurd (h1.trans h2.symm ▸ List.mem_cons_self) nd.1
theorem sk_two {sk : List Nat} {c d : Nat} (hcd : c < d) (h : ∀ k, k ∈ sk ↔ k = c ∨ k = d) (nd : sk.Nodup) (hs : sk.Pairwise (· ≤ ·)) : sk = [c, d] := by
  match sk with
  | [] => exact absurd ((h c).mpr (.inl rfl)) (fun z => nomatch z)
  | [k] =>
    have h1 := List.mem_singleton.mp ((h c).mpr (.inl rfl))
    have h2 := List.mem_singleton.mp ((h d).mpr (.inr rfl))
    omega
  | [k, l] =>
    have h1 := (h k).mp List.mem_cons_self
    have h2 := (h l).mp (List.mem_cons_of_mem _ List.mem_cons_self)
    have h3 : k ≠ l := fun z => (List.nodup_cons.mp nd).1 (z ▸ List.mem_cons_self)
    have h4 : k ≤ l := (List.pairwise_cons.mp hs).1 l List.mem_cons_self
    rw [show k = c by omega, show l = d by omega]
  | k :: l :: j :: r =>
    have h1 := (h k).mp List.mem_cons_self
    have h2 := (h l).mp (List.mem_cons_of_mem _ List.mem_cons_self)
    have h3 := (h j).mp (List.mem_cons_of_mem _ (List.mem_cons_of_mem _ List.mem_cons_self))
    have n1 : k ≠ l := fun z => (List.nodup_cons.mp nd).1 (z ▸ List.mem_cons_self)
    have n2 : k ≠ j := fun z => (List.nodup_cons.mp nd).1 (z ▸ List.mem_cons_of_mem _ List.mem_cons_self)
    have n3 : l ≠ j := fun z => (List.nodup_cons.mp (List.nodup_cons.mp nd).2).1 (z ▸ List.mem_cons_self)
    omega
theorem fits_one {c a b w : Nat} : Fits [(c, a, b)] c w ↔ w &&& a = b := by
  constructor
  · intro h; exact h _ List.mem_cons_self rfl
  · intro h z hz _
    rw [List.mem_singleton.mp hz]; exact h
theorem fits_two {c a b x y w : Nat} : Fits [(c, a, b), (c, x, y)] c w ↔ w &&& a = b ∧ w &&& x = y := by
  constructor
  · intro h; exact ⟨h _ List.mem_cons_self rfl, h _ (List.mem_cons_of_mem _ List.mem_cons_self) rfl⟩
  · intro h z hz _
    rcases List.mem_cons.mp hz with rfl | hz
    · exact h.1
    · rw [List.mem_singleton.mp hz]; exact h.2
theorem fits_fst {c d a b x y w : Nat} (hcd : c ≠ d) : Fits [(c, a, b), (d, x, y)] c w ↔ w &&& a = b := by
  constructor
  · intro h; exact h _ List.mem_cons_self rfl
  · intro h z hz e
    rcases List.mem_cons.mp hz with rfl | hz
    · exact h
    · rw [List.mem_singleton.mp hz] at e; exact absurd e.symm hcd
theorem fits_snd {c d a b x y w : Nat} (hcd : c ≠ d) : Fits [(c, a, b), (d, x, y)] d w ↔ w &&& x = y := by
  constructor
  · intro h; exact h _ (List.mem_cons_of_mem _ List.mem_cons_self) rfl
  · intro h z hz e
    rcases List.mem_cons.mp hz with rfl | hz
    · exact absurd e hcd
    · rw [List.mem_singleton.mp hz]; exact h
theorem least_is {P : Nat → Prop} {w b : Nat} (hw : P w) (hl : ∀ v, v < w → ¬ P v) (hb : P b) (hle : ∀ v, P v → b ≤ v) : w = b := by
  have h1 := hle w hw
  rcases (show b = w ∨ b < w by omega) with z | z
  · exact z.symm
  · exact absurd hb (hl b z)
theorem and_le {w a b : Nat} (h : w &&& a = b) : b ≤ w := h ▸ Nat.and_le_left
theorem or_of {w a b x y : Nat} (h1 : w &&& a = b) (h2 : w &&& x = y) : b ||| y = w &&& (a ||| x) := by
  rw [← h1, ← h2, Nat.and_or_distrib_left]
theorem or_fits {w a b x y : Nat} (h1 : w &&& a = b) (h2 : w &&& x = y) : (b ||| y) &&& a = b ∧ (b ||| y) &&& x = y := by
  rw [or_of h1 h2]
  subst h1 h2
  constructor
  · apply Nat.eq_of_testBit_eq; intro i
    simp only [Nat.testBit_and, Nat.testBit_or]
    cases w.testBit i <;> cases a.testBit i <;> cases x.testBit i <;> rfl
  · apply Nat.eq_of_testBit_eq; intro i
    simp only [Nat.testBit_and, Nat.testBit_or]
    cases w.testBit i <;> cases a.testBit i <;> cases x.testBit i <;> rfl
theorem fits_agr {w a b x y : Nat} (h1 : w &&& a = b) (h2 : w &&& x = y) : agr a b x y = true := by
  subst h1 h2
  refine decide_eq_true (Nat.eq_of_testBit_eq fun i => ?_)
  simp only [Nat.testBit_and, Nat.testBit_xor, Nat.zero_testBit]
  cases w.testBit i <;> cases a.testBit i <;> cases x.testBit i <;> rfl
theorem agr_fits {a b x y : Nat} (hb : b &&& a = b) (hy : y &&& x = y) (h : agr a b x y = true) : (b ||| y) &&& a = b ∧ (b ||| y) &&& x = y := by
  have h := of_decide_eq_true h
  have g : ∀ i, ((b.testBit i ^^ y.testBit i) && a.testBit i && x.testBit i) = false := fun i => by
    have := congrArg (fun n => Nat.testBit n i) h
    simpa only [Nat.testBit_and, Nat.testBit_xor, Nat.zero_testBit] using this
  have gb : ∀ i, (b.testBit i && a.testBit i) = b.testBit i := fun i => by
    have := congrArg (fun n => Nat.testBit n i) hb
    simpa only [Nat.testBit_and] using this
  have gy : ∀ i, (y.testBit i && x.testBit i) = y.testBit i := fun i => by
    have := congrArg (fun n => Nat.testBit n i) hy
    simpa only [Nat.testBit_and] using this
  constructor
  · apply Nat.eq_of_testBit_eq; intro i
    have e1 := g i; have e2 := gb i; have e3 := gy i
    simp only [Nat.testBit_and, Nat.testBit_or]
    revert e1 e2 e3
    cases b.testBit i <;> cases a.testBit i <;> cases x.testBit i <;> cases y.testBit i <;> simp
  · apply Nat.eq_of_testBit_eq; intro i
    have e1 := g i; have e2 := gb i; have e3 := gy i
    simp only [Nat.testBit_and, Nat.testBit_or]
    revert e1 e2 e3
    cases b.testBit i <;> cases a.testBit i <;> cases x.testBit i <;> cases y.testBit i <;> simp
/-- what is found by trying is what the bits tell -/
theorem asking_is : ∀ {o p : Option (Nat × Nat × Nat)} {sk : List Nat} {f : Nat → V}, LatOk o → LatOk p → sk.Nodup → sk.Pairwise (· ≤ ·) → (∀ c, c ∈ sk ↔ c ∈ (lats o p).map (·.1)) → (∀ c, c ∈ sk → ∃ w : Nat, f c = .int (w : Int) ∧ Least (lats o p) c w) →
    latA o p = true ∧ sk.length = (lwL o p).length ∧ ∀ (j c : Nat) (q : Int × Int), sk[j]? = some c → (lwL o p)[j]? = some q → q.1 = (c : Int) ∧ f c = .int q.2
  | none, none, sk, f, _, _, _, _, hm, _ => by
    have e : sk = [] := List.eq_nil_iff_forall_not_mem.mpr fun c hc => by simpa [lats] using (hm c).mp hc
    subst e
    exact ⟨rfl, rfl, fun j c q h => by simp at h⟩
  | some (c, a, b), none, sk, f, ho, _, nd, _, hm, hf => by
    obtain rfl : sk = [c] := sk_one (fun k => (hm k).trans (by simp [lats])) nd
    obtain ⟨w, ew, hw⟩ := hf c List.mem_cons_self
    obtain rfl : w = b := least_is (P := fun w => w &&& a = b) (fits_one.mp hw.1) (fun v hv z => hw.2 v hv (fits_one.mpr z)) ho.2.2 (fun v hv => and_le hv)
    refine ⟨rfl, rfl, fun j k q h1 h2 => ?_⟩
    cases j with
    | zero => cases h1; cases h2; exact ⟨rfl, ew⟩
    | succ j => simp at h1
  | none, some (c, a, b), sk, f, _, ho, nd, _, hm, hf => by
    obtain rfl : sk = [c] := sk_one (fun k => (hm k).trans (by simp [lats])) nd
    obtain ⟨w, ew, hw⟩ := hf c List.mem_cons_self
    obtain rfl : w = b := least_is (P := fun w => w &&& a = b) (fits_one.mp hw.1) (fun v hv z => hw.2 v hv (fits_one.mpr z)) ho.2.2 (fun v hv => and_le hv)
    refine ⟨rfl, rfl, fun j k q h1 h2 => ?_⟩
    cases j with
    | zero => cases h1; cases h2; exact ⟨rfl, ew⟩
    | succ j => simp at h1
  | some (c, a, b), some (d, x, y), sk, f, ho, hp, nd, hs, hm, hf => by
    have hm' : ∀ k, k ∈ sk ↔ k = c ∨ k = d := fun k => (hm k).trans (by simp [lats])
    have hf' : ∀ k, k ∈ sk → ∃ w : Nat, f k = .int (w : Int) ∧ Least [(c, a, b), (d, x, y)] k w := hf
    by_cases e : c = d
    · subst e
      obtain rfl : sk = [c] := sk_one (fun k => (hm' k).trans (by simp)) nd
      obtain ⟨w, ew, hw⟩ := hf' c List.mem_cons_self
      have h12 := fits_two.mp hw.1
      have hle : ∀ v, (v &&& a = b ∧ v &&& x = y) → b ||| y ≤ v := fun v hv => by rw [or_of hv.1 hv.2]; exact Nat.and_le_left
      obtain rfl : w = b ||| y := least_is (P := fun w => w &&& a = b ∧ w &&& x = y) h12 (fun v hv z => hw.2 v hv (fits_two.mpr z)) (or_fits h12.1 h12.2) hle
      have el : lwL (some (c, a, b)) (some (c, x, y)) = [((c : Int), ((b ||| y : Nat) : Int))] := if_pos rfl
      rw [el]
      refine ⟨(show latA (some (c, a, b)) (some (c, x, y)) = agr a b x y from if_pos rfl).trans (fits_agr h12.1 h12.2), rfl, fun j k q h1 h2 => ?_⟩
      cases j with
      | zero => cases h1; cases h2; exact ⟨rfl, ew⟩
      | succ j => simp at h1
    · have el : lwL (some (c, a, b)) (some (d, x, y)) = if ((d : Int), (y : Int)).1 < ((c : Int), (b : Int)).1 then [((d : Int), (y : Int)), ((c : Int), (b : Int))] else [((c : Int), (b : Int)), ((d : Int), (y : Int))] := if_neg e
      have hl : latA (some (c, a, b)) (some (d, x, y)) = true := if_neg e
      obtain ⟨w, ew, hw⟩ := hf' c ((hm' c).mpr (.inl rfl))
      obtain ⟨v, ev, hv⟩ := hf' d ((hm' d).mpr (.inr rfl))
      obtain rfl : w = b := least_is (P := fun w => w &&& a = b) ((fits_fst e).mp hw.1) (fun v hv z => hw.2 v hv ((fits_fst e).mpr z)) ho.2.2 (fun v hv => and_le hv)
      obtain rfl : v = y := least_is (P := fun w => w &&& x = y) ((fits_snd e).mp hv.1) (fun u hu z => hv.2 u hu ((fits_snd e).mpr z)) hp.2.2 (fun v hv => and_le hv)
      rcases (show c < d ∨ d < c by omega) with z | z
      · obtain rfl : sk = [c, d] := sk_two z hm' nd hs
        rw [el, if_neg (by show ¬ (d : Int) < (c : Int); omega)]
        refine ⟨hl, rfl, fun j k q h1 h2 => ?_⟩
        match j with
        | 0 => cases h1; cases h2; exact ⟨rfl, ew⟩
        | 1 => cases h1; cases h2; exact ⟨rfl, ev⟩
        | j + 2 => simp at h1
      · obtain rfl : sk = [d, c] := sk_two z (fun k => (hm' k).trans (by omega)) nd hs
        rw [el, if_pos (by show (d : Int) < (c : Int); omega)]
        refine ⟨hl, rfl, fun j k q h1 h2 => ?_⟩
        match j with
        | 0 => cases h1; cases h2; exact ⟨rfl, ev⟩
        | 1 => cases h1; cases h2; exact ⟨rfl, ew⟩
        | j + 2 => simp at h1
theorem g_tup3 {K : PySem.W.Frag} {i j k : Nat} {T : Addr} {x y z : V} {σ : St} {H : Hp} {Q : St → Hp → Prop} (e : H T = some (.tup [x, y, z])) (h : Q (((σ.set i (some x)).set j (some y)).set k (some z)) H) :
    gTup K 3 (gCons (gName i) (gCons (gName j) (gCons (gName k) gNil))) (.ref T) σ H Q :=
  ⟨T, [x, y, z], rfl, SqT.of e, rfl, x, [y, z], rfl, y, [z], rfl, z, [], rfl, rfl, h⟩
/-! ### the first clash -/
def cand (rs : List Rw) (i j x : Nat) : Prop := i < j ∧ ∃ r q, rs[i]? = some r ∧ rs[j]? = some q ∧ clash r q = true ∧ x = r.w ||| q.w
def lexLe (x i j y k l : Nat) : Prop := x < y ∨ (x = y ∧ (i < k ∨ (i = k ∧ j ≤ l)))
def IsDue (rs : List Rw) (x i j : Nat) : Prop := cand rs i j x ∧ ∀ i' j' x', cand rs i' j' x' → lexLe x i j x' i' j'
theorem IsDue.uniq {rs : List Rw} {x i j y k l : Nat} (h : IsDue rs x i j) (g : IsDue rs y k l) : x = y ∧ i = k ∧ j = l := by
  have h1 := h.2 _ _ _ g.1
  have h2 := g.2 _ _ _ h.1
  unfold lexLe at h1 h2
  omega
theorem mem_fnd1 {rs : List Rw} {i j : Nat} (hij : i < j) {ns : List Int} : ns ∈ fnd1 rs i j ↔ ∃ x, ns = [((x : Nat) : Int), (i : Int), (j : Int)] ∧ cand rs i j x := by
  constructor
  · intro h
    unfold fnd1 at h
    split at h
    · rename_i r q e1 e2
      split at h
      · rename_i hc
        exact ⟨_, List.mem_singleton.mp h, hij, r, q, e1, e2, hc, rfl⟩
      · simp at h
    · simp at h
  · rintro ⟨x, rfl, _, r, q, e1, e2, hc, rfl⟩
    unfold fnd1
    rw [e1, e2]
    dsimp only
    rw [if_pos hc]
    exact List.mem_cons_self
theorem mem_fndL {rs : List Rw} {ns : List Int} : ns ∈ fndL rs rs.length ↔ ∃ i j x : Nat, ns = [(x : Int), (i : Int), (j : Int)] ∧ cand rs i j x := by
  unfold fndL fndR
  rw [List.mem_flatMap]
  constructor
  · rintro ⟨j, hj, h⟩
    obtain ⟨i, hi, h⟩ := List.mem_flatMap.mp h
    obtain ⟨x, e, hc⟩ := (mem_fnd1 (List.mem_range.mp hi)).mp h
    exact ⟨i, j, x, e, hc⟩
  · rintro ⟨i, j, x, e, hc⟩
    obtain ⟨hij, r, q, e1, e2, hcl, hx⟩ := id hc
    exact ⟨j, List.mem_range.mpr (List.getElem?_eq_some_iff.mp e2).1, List.mem_flatMap.mpr ⟨i, List.mem_range.mpr hij, (mem_fnd1 hij).mpr ⟨x, e, hc⟩⟩⟩
theorem fnd_none {rs : List Rw} (h : fndL rs rs.length = []) : ∀ i j x, ¬ cand rs i j x := fun i j x hc => by
  have := mem_fndL.mpr ⟨i, j, x, rfl, hc⟩
  rw [h] at this
  cases this
theorem best_min (bt : Nat → Nat → Bool) (N : Nat) (tr : ∀ a b c, a ≤ N → b ≤ N → c ≤ N → bt a b = false → bt b c = false → bt a c = false) (ir : ∀ a, a ≤ N → bt a a = false) (as : ∀ a b, a ≤ N → b ≤ N → bt a b = true → bt b a = false) :
    ∀ n, n ≤ N → ∀ k, k ≤ n → bt k (PySem.argBest bt n) = false
  | 0, hn, k, hk => by
    obtain rfl : k = 0 := by omega
    exact ir 0 hn
  | n + 1, hn, k, hk => by
    have ih := best_min bt N tr ir as n (by omega)
    have hb := best_lt bt n
    show bt k (if bt (n + 1) (PySem.argBest bt n) = true then n + 1 else PySem.argBest bt n) = false
    by_cases h : bt (n + 1) (PySem.argBest bt n) = true
    · rw [if_pos h]
      rcases (show k ≤ n ∨ k = n + 1 by omega) with z | z
      · exact tr k (PySem.argBest bt n) (n + 1) (by omega) (by omega) hn (ih k z) (as _ _ hn (by omega) h)
      · rw [z]; exact ir _ hn
    · rw [if_neg h]
      rcases (show k ≤ n ∨ k = n + 1 by omega) with z | z
      · exact ih k z
      · rw [z]; exact Bool.eq_false_iff.mpr h
theorem lex3 (x i j y k l : Int) : HT.lexLt [x, i, j] [y, k, l] = decide (x < y ∨ (x = y ∧ (i < k ∨ (i = k ∧ j < l)))) := by
  rw [HT.lexLt_cons]
  by_cases h1 : x = y
  · rw [if_pos h1, HT.lexLt_cons]
    by_cases h2 : i = k
    · rw [if_pos h2, HT.lexLt_cons]
      by_cases h3 : j = l
      · rw [if_pos h3, HT.lexLt_nil_nil]; symm; apply decide_eq_false; omega
      · rw [if_neg h3, decide_eq_decide]; omega
    · rw [if_neg h2, decide_eq_decide]; omega
  · rw [if_neg h1, decide_eq_decide]; omega
theorem due_best {rs : List Rw} {x i j : Nat} (h : (fndL rs rs.length)[PySem.argBest (fun i j => HT.lexLt ((fndL rs rs.length).getD i []) ((fndL rs rs.length).getD j [])) ((fndL rs rs.length).length - 1)]? = some [(x : Int), (i : Int), (j : Int)]) : IsDue rs x i j := by
  generalize hL : fndL rs rs.length = L at h
  have mem : ∀ ns, ns ∈ L ↔ ∃ i j x : Nat, ns = [(x : Int), (i : Int), (j : Int)] ∧ cand rs i j x := fun ns => by rw [← hL]; exact mem_fndL
  have hpos : 0 < L.length := Nat.lt_of_le_of_lt (Nat.zero_le _) (List.getElem?_eq_some_iff.mp h).1
  have at_ : ∀ a, a ≤ L.length - 1 → ∃ x i j : Int, L.getD a [] = [x, i, j] := fun a ha => by
    have e : L[a]? = some (L[a]'(by omega)) := List.getElem?_eq_getElem (by omega)
    obtain ⟨i, j, x, e2, _⟩ := (mem _).mp (List.mem_of_getElem? e)
    exact ⟨_, _, _, by rw [List.getD_eq_getElem?_getD, e, e2]; rfl⟩
  have hmin := best_min (fun i j => HT.lexLt (L.getD i []) (L.getD j [])) (L.length - 1)
    (fun a b c ha hb hc h1 h2 => by
      obtain ⟨x1, i1, j1, e1⟩ := at_ a ha
      obtain ⟨x2, i2, j2, e2⟩ := at_ b hb
      obtain ⟨x3, i3, j3, e3⟩ := at_ c hc
      rw [e1, e2, lex3, decide_eq_false_iff_not] at h1
      rw [e2, e3, lex3, decide_eq_false_iff_not] at h2
      rw [e1, e3, lex3, decide_eq_false_iff_not]
      omega)
    (fun a ha => by
      obtain ⟨x1, i1, j1, e1⟩ := at_ a ha
      rw [e1, lex3, decide_eq_false_iff_not]
      omega)
    (fun a b ha hb h1 => by
      obtain ⟨x1, i1, j1, e1⟩ := at_ a ha
      obtain ⟨x2, i2, j2, e2⟩ := at_ b hb
      rw [e1, e2, lex3, decide_eq_true_iff] at h1
      rw [e2, e1, lex3, decide_eq_false_iff_not]
      omega) (L.length - 1) (Nat.le_refl _)
  have hc : cand rs i j x := by
    obtain ⟨i', j', x', e, hc⟩ := (mem _).mp (List.mem_of_getElem? h)
    injection e with e1 e; injection e with e2 e; injection e with e3 e
    rw [Int.ofNat.inj e1, Int.ofNat.inj e2, Int.ofNat.inj e3]; exact hc
  refine ⟨hc, fun i' j' x' hc' => ?_⟩
  obtain ⟨k, hk⟩ := List.mem_iff_getElem?.mp ((mem _).mpr ⟨i', j', x', rfl, hc'⟩)
  have hk2 : k < L.length := (List.getElem?_eq_some_iff.mp hk).1
  have := hmin k (by omega)
  rw [List.getD_eq_getElem?_getD, hk, List.getD_eq_getElem?_getD, h] at this
  rw [show (some [(x' : Int), (i' : Int), (j' : Int)]).getD [] = [(x' : Int), (i' : Int), (j' : Int)] from rfl, show (some [(x : Int), (i : Int), (j : Int)]).getD [] = [(x : Int), (i : Int), (j : Int)] from rfl, lex3, decide_eq_false_iff_not] at this
  unfold lexLe
  omega
/-- what the law's own search has found among the pairs S -/
def FndUp (rs : List Rw) (S : Nat → Nat → Prop) (X : Hp) (v : V) : Prop :=
  (v = .non ∧ ∀ i j x, S i j → ¬ cand rs i j x) ∨ ∃ (x i j : Nat) (r q : Rw) (tp wp : Addr), v = .ref tp ∧ S i j ∧ cand rs i j x ∧ rs[i]? = some r ∧ rs[j]? = some q ∧ X tp = some (.tup [.int (x : Int), .int (i : Int), .int (j : Int), .ref wp]) ∧ PrsAt X wp (lwL r.l q.l) ∧ ∀ i' j' x', S i' j' → cand rs i' j' x' → lexLe x i j x' i' j'
theorem PrsAt.same {H H' : Hp} {p : Addr} {l : List (Int × Int)} (h : PrsAt H p l) (s : Same H H') : PrsAt H' p l := by
  obtain ⟨ts, e, hl, ht⟩ := h
  exact ⟨ts, s _ _ e, hl, fun j t q e1 e2 => s _ _ (ht j t q e1 e2)⟩
def spDue11 : Sp := fun vs H Q _ => ∃ (m : Nat) (p : Addr) (as : List Addr) (rs : List Rw), vs = [.int (m : Int), .ref p] ∧ m ≤ 16 ∧ H p = some (.tup (as.map V.ref)) ∧ as.length = rs.length ∧ rs.length ≤ 100 ∧ (∀ (j : Nat) (a : Addr) (r : Rw), as[j]? = some a → rs[j]? = some r → RwAt H a r ∧ RwOk m r) ∧
  ((∀ i j x, ¬ cand rs i j x) → ∀ H', Same H H' → Q .non H') ∧
  (∀ (x i j : Nat) (r q : Rw), IsDue rs x i j → rs[i]? = some r → rs[j]? = some q → ∀ (tp wp : Addr) (H' : Hp), H' tp = some (.tup [.int (x : Int), .int (i : Int), .int (j : Int), .ref wp]) → PrsAt H' wp (lwL r.l q.l) → Same H H' → Q (.ref tp) H')
def spTold : Sp := fun vs H Q _ => (vs = [.non, .non] ∧ Q (.bl true) H) ∨ ∃ (a b wp wq : Addr) (x i j : Int) (l : List (Int × Int)), vs = [.ref a, .ref b] ∧ H a = some (.tup [.int x, .int i, .int j, .ref wp]) ∧ H b = some (.tup [.int x, .int i, .int j, .ref wq]) ∧ PrsAt H wp l ∧ PrsAt H wq l ∧ l.length ≤ 2 ∧ ∀ H', Same H H' → Q (.bl true) H'
theorem hu9_of {A : Around} {k : Nat} (hr : Room k A) : A.units + 9 < cLine := by have := hr.un; omega
theorem clash_parts {r q : Rw} : clash r q = true ↔ agr r.m r.w q.m q.w = true ∧ latA r.l q.l = true := by unfold clash; rw [Bool.and_eq_true]
/-! ### parts of the addresses, and rows of them -/
abbrev Prt := List Nat × List Nat
structure PrtOk (m : Nat) (z : Prt) : Prop where
  l1 : z.1.length = m
  l2 : z.2.length = m
  b1 : Bit z.1
  b2 : Bit z.2
  le : ∀ (k x y : Nat), z.1[k]? = some x → z.2[k]? = some y → y ≤ x
def Dsj (y z : Prt) : Prop := ∃ k : Nat, y.1[k]? = some 1 ∧ z.1[k]? = some 1 ∧ y.2[k]? ≠ z.2[k]?
def PrtAt (B : List Addr) (X : Hp) (a : Addr) (z : Prt) : Prop := ∃ ma wa, a ∉ B ∧ ma ∉ B ∧ wa ∉ B ∧ X a = some (.tup [.ref ma, .ref wa]) ∧ X ma = some (.lst (vN z.1)) ∧ X wa = some (.lst (vN z.2))
def KeepB (B : List Addr) (H H' : Hp) : Prop := ∀ b o, b ∉ B → H b = some o → H' b = some o
/-- two rows that never answer at once -/
def NC (r q : Rw) : Prop := clash r q = false ∧ clash q r = false
theorem cut_drop {xs : List V} {m : Nat} (h : m ≤ xs.length) : cutV xs (some (m : Int)) none = xs.drop m := by
  unfold cutV HT.sIx
  have e : ((m : Int)).toNat = m := by omega
  simp only
  split
  · omega
  · rw [e, Nat.min_eq_left h]
    exact List.take_of_length_le (by rw [List.length_drop]; exact Nat.le_refl _)
def spRowed : Sp := fun vs H Q _ => ∃ (p a b : Addr) (lt : V) (m n : Nat) (z : Prt) (o : Option (Nat × Nat × Nat)), vs = [.ref p, .ref a, .ref b, lt] ∧ FeedAt H p n ∧ n + 100 < 2 ^ 40 ∧ m ≤ 16 ∧ a ≠ p ∧ b ≠ p ∧ H a = some (.lst (vN z.1)) ∧ H b = some (.lst (vN z.2)) ∧ PrtOk m z ∧ LatV H lt o ∧ LatOk o ∧
  ∀ (t : Addr) (H' : Hp) (r : Rw), r.m = num z.1 → r.w = num z.2 → r.l = o → RwAt H' t r → RwOk m r → FeedAt H' p (n + 100) → KeepP p H H' → Q (.ref t) H'
def spWith : Sp := fun vs H Q _ => ∃ (a : Addr) (l : List Nat) (k b : Nat), vs = [.ref a, .int (k : Int), .int (b : Int)] ∧ H a = some (.lst (vN l)) ∧ k < l.length ∧ l.length ≤ 1000 ∧ ∀ (a' : Addr) (H' : Hp), H a' = none → H' a' = some (.lst (vN (l.set k b))) → Same H H' → Q (.ref a') H'
/-- rows of a map at the addresses told -/
def RwsAt2 (m : Nat) (X : Hp) (ws : List (Addr × Rw)) : Prop := ∀ z ∈ ws, RwAt X z.1 z.2 ∧ RwOk m z.2
theorem RwsAt2.same {m : Nat} {X Y : Hp} {ws : List (Addr × Rw)} (h : RwsAt2 m X ws) (s : Same X Y) : RwsAt2 m Y ws := fun z hz => ⟨(h z hz).1.same s, (h z hz).2⟩
def refs {α : Type} (ws : List (Addr × α)) : List V := ws.map fun z => .ref z.1
theorem refs_length {α : Type} (ws : List (Addr × α)) : (refs ws).length = ws.length := List.length_map ..
def spApart : Sp := fun vs H Q _ => ∃ (p : Addr) (m n times : Nat), vs = [.ref p, .int (m : Int), .int (times : Int)] ∧ FeedAt H p n ∧ n + 10000 < 2 ^ 40 ∧ 1 ≤ m ∧ m ≤ 16 ∧ times ≤ 30 ∧
  ∀ (t : Addr) (H' : Hp) (ws : List (Addr × Rw)), H' t = some (.tup (refs ws)) → RwsAt2 m H' ws → ws.Pairwise (fun a b => NC a.2 b.2) → ws.length ≤ 2 * (times + 1) → FeedAt H' p (n + 10000) → KeepP p H H' → Q (.ref t) H'
theorem refs_at {α : Type} {ws : List (Addr × α)} {k : Nat} {z : Addr × α} (h : ws[k]? = some z) : (refs ws)[k]? = some (.ref z.1) := by unfold refs; rw [List.getElem?_map, h]; rfl
theorem refs_snoc {α : Type} (ws : List (Addr × α)) (z : Addr × α) : refs (ws ++ [z]) = refs ws ++ [.ref z.1] := by unfold refs; rw [List.map_append]; rfl
theorem refs_get {α : Type} {ws : List (Addr × α)} {k : Nat} {x : V} (h : (refs ws)[k]? = some x) : ∃ z, ws[k]? = some z ∧ x = .ref z.1 := by
  unfold refs at h
  rw [List.getElem?_map] at h
  obtain ⟨z, h1, h2⟩ := Option.map_eq_some_iff.mp h
  exact ⟨z, h1, h2.symm⟩
theorem pw_snoc {α : Type} {R : α → α → Prop} {l : List α} {z : α} (h : l.Pairwise R) (hz : ∀ y ∈ l, R y z) : (l ++ [z]).Pairwise R := by
  rw [List.pairwise_append]
  exact ⟨h, List.pairwise_singleton _ _, fun a ha b hb => by rw [List.mem_singleton.mp hb]; exact hz a ha⟩
theorem refs_eq {α : Type} (ws : List (Addr × α)) : refs ws = (ws.map (·.1)).map V.ref := by unfold refs; rw [List.map_map]; rfl
def spLong : Sp := fun vs H Q _ => ∃ (p : Addr) (m n : Nat), vs = [.ref p, .int (m : Int)] ∧ FeedAt H p n ∧ n + 20000 < 2 ^ 40 ∧ 1 ≤ m ∧ m ≤ 16 ∧
  ∀ (t : Addr) (H' : Hp) (ws : List (Addr × Rw)), t ≠ p → H' t = some (.lst (refs ws)) → RwsAt2 m H' ws → ws.length ≤ 100 → FeedAt H' p (n + 20000) → KeepP p H H' → Q (.ref t) H'
/-! ### words of latches, and who answers -/
def rv3 {α : Type} (us zs : List α) : List α := match us, zs with
  | [], [a, b, c] => [c, b, a]
  | _, _ => []
def dV (keys : List Nat) (g : Nat → Nat) : List (Key × V) := dN keys fun c => .int (g c : Int)
/-- the word of a latch's chip, 0 where none is told -/
def wrd (keys : List Nat) (g : Nat → Nat) (c : Nat) : Nat := if c ∈ keys then g c else 0
theorem dN_none {f : Nat → V} {c : Nat} : ∀ {keys : List Nat}, c ∉ keys → valV (dN keys f) (Sum.inl (c : Int)) = none
  | [], _ => rfl
  | k :: keys, h => by
    unfold valV dN
    rw [List.map_cons, List.find?_cons]
    have z : ¬ k = c := fun z => h (z ▸ List.mem_cons_self)
    have e : decide ((Sum.inl (k : Int) : Key) = Sum.inl (c : Int)) = false := decide_eq_false fun y => z (by injection y with y; exact Int.ofNat.inj y)
    simp only [e]
    exact dN_none (keys := keys) fun y => h (List.mem_cons_of_mem _ y)
theorem dV_get (keys : List Nat) (g : Nat → Nat) (c : Nat) : (valV (dV keys g) (Sum.inl (c : Int))).getD (.int 0) = .int (wrd keys g c : Int) := by
  unfold dV wrd
  by_cases h : c ∈ keys
  · rw [dN_val h, if_pos h]; rfl
  · rw [dN_none h, if_neg h]; rfl
/-- a row answers by these words -/
def awk (r : Rw) (W : Nat → Nat) : Bool := match r.l with
  | none => true
  | some (c, a, b) => decide (W c &&& a = b)
def met (r : Rw) (x : Nat) : Bool := decide (x &&& r.m = r.w)
def spMeet : Sp := fun vs H Q _ => ∃ (t : Addr) (r : Rw) (x : Nat), vs = [.ref t, .int (x : Int)] ∧ RwAt H t r ∧ Q (.bl (met r x)) H
def spAwake : Sp := fun vs H Q _ => ∃ (t d : Addr) (r : Rw) (keys : List Nat) (g : Nat → Nat), vs = [.ref t, .ref d] ∧ RwAt H t r ∧ H d = some (.dK (dV keys g)) ∧ Q (.bl (awk r (wrd keys g))) H
def ans (r : Rw) (x : Nat) (W : Nat → Nat) : Bool := met r x && awk r W
/-- the number of the first row that answers, or None -/
def fstA (rs : List Rw) (x : Nat) (W : Nat → Nat) : V := match rs.findIdx? (fun r => ans r x W) with
  | none => .non
  | some i => .int (i : Int)
def spAnsw : Sp := fun vs H Q _ => ∃ (p d : Addr) (x : Nat) (ws : List (Addr × Rw)) (keys : List Nat) (g : Nat → Nat), vs = [.ref p, .int (x : Int), .ref d] ∧ H p = some (.tup (refs ws)) ∧ (∀ z ∈ ws, RwAt H z.1 z.2) ∧ H d = some (.dK (dV keys g)) ∧ ∀ H', Same H H' → Q (fstA (ws.map (·.2)) x (wrd keys g)) H'
def spWords : Sp := fun vs H Q _ => ∃ (p t : Addr) (m n : Nat) (ws : List (Addr × Rw)), vs = [.ref p, .ref t] ∧ FeedAt H p n ∧ n + 1000 < 2 ^ 40 ∧ H t = some (.tup (refs ws)) ∧ RwsAt2 m H ws ∧ ws.length ≤ 100 ∧
  ∀ (d : Addr) (H' : Hp) (keys : List Nat) (g : Nat → Nat), H d = none → keys.Nodup → H' d = some (.dK (dV keys g)) → FeedAt H' p (n + 1000) → KeepP p H H' → Q (.ref d) H'
def spAddress : Sp := fun vs H Q _ => ∃ (p t : Addr) (m n : Nat) (ws : List (Addr × Rw)), vs = [.ref p, .int (m : Int), .ref t] ∧ FeedAt H p n ∧ n + 100 < 2 ^ 40 ∧ 1 ≤ m ∧ m ≤ 16 ∧ H t = some (.tup (refs ws)) ∧ RwsAt2 m H ws ∧ ws.length ≤ 100 ∧
  ∀ (x : Nat) (H' : Hp), x < 2 ^ m → FeedAt H' p (n + 100) → KeepP p H H' → Q (.int (x : Int)) H'
theorem awk_eq {keys : List Nat} {g : Nat → Nat} {c a b : Nat} {r : Rw} (h : r.l = some (c, a, b)) : decide (V.int (Builtin.bitAnd (wrd keys g c : Int) (a : Int)) = V.int (b : Int)) = awk r (wrd keys g) := by
  rw [band]
  unfold awk
  rw [h]
  show _ = decide (wrd keys g c &&& a = b)
  by_cases z : wrd keys g c &&& a = b
  · rw [decide_eq_true z, z]; exact decide_eq_true rfl
  · rw [decide_eq_false z]; exact decide_eq_false fun y => z (by injection y with y; exact Int.ofNat.inj y)
theorem met_eq {r : Rw} {x : Nat} : decide (V.int (Builtin.bitAnd (x : Int) (r.m : Int)) = V.int (r.w : Int)) = met r x := by
  rw [band]
  unfold met
  by_cases h : x &&& r.m = r.w
  · rw [decide_eq_true h, h]; exact decide_eq_true rfl
  · rw [decide_eq_false h]; exact decide_eq_false fun z => h (by injection z with z; exact Int.ofNat.inj z)
theorem fstA_none {rs : List Rw} {x : Nat} {W : Nat → Nat} (h : ∀ r ∈ rs, ans r x W = false) : fstA rs x W = .non := by
  unfold fstA
  rw [List.findIdx?_eq_none_iff.mpr h]
theorem fstA_some {rs : List Rw} {x i : Nat} {W : Nat → Nat} {r : Rw} (hr : rs[i]? = some r) (h : ans r x W = true) (hb : ∀ j q, j < i → rs[j]? = some q → ans q x W = false) : fstA rs x W = .int (i : Int) := by
  unfold fstA
  obtain ⟨hi, e⟩ := List.getElem?_eq_some_iff.mp hr
  rw [List.findIdx?_eq_some_iff_getElem.mpr ⟨hi, by rw [e]; exact h, fun j hj => by rw [hb j _ hj (List.getElem?_eq_getElem (by omega))]; decide⟩]
/-! ### how many addresses rows meet, and the holes between them -/
theorem and_split (x m w e : Nat) : (x &&& m = w) ↔ (x / 2 ^ e &&& m / 2 ^ e = w / 2 ^ e ∧ x % 2 ^ e &&& m % 2 ^ e = w % 2 ^ e) := by
  have h1 : (x &&& m) / 2 ^ e = x / 2 ^ e &&& m / 2 ^ e := by
    apply Nat.eq_of_testBit_eq; intro i
    simp only [Nat.testBit_div_two_pow, Nat.testBit_and]
  have h2 : (x &&& m) % 2 ^ e = x % 2 ^ e &&& m % 2 ^ e := by
    apply Nat.eq_of_testBit_eq; intro i
    simp only [Nat.testBit_mod_two_pow, Nat.testBit_and]
    cases decide (i < e) <;> simp
  rw [← h1, ← h2]
  constructor
  · intro h; rw [h]; exact ⟨rfl, rfl⟩
  · rintro ⟨a, b⟩
    rw [← Nat.div_add_mod (x &&& m) (2 ^ e), ← Nat.div_add_mod w (2 ^ e), a, b]
theorem countP_double (p : Nat → Bool) : ∀ n, (List.range (2 * n)).countP p = (List.range n).countP (fun k => p (2 * k)) + (List.range n).countP (fun k => p (2 * k + 1))
  | 0 => rfl
  | n + 1 => by
    rw [show 2 * (n + 1) = 2 * n + 1 + 1 by omega, List.range_succ, List.range_succ, List.countP_append, List.countP_append, countP_double p n, List.range_succ, List.countP_append, List.countP_append]
    simp only [List.countP_singleton]
    omega
theorem countP_eq {p q : Nat → Bool} {n : Nat} (h : ∀ k, k < n → p k = q k) : (List.range n).countP p = (List.range n).countP q := by
  apply List.countP_congr
  intro k hk
  rw [h k (List.mem_range.mp hk)]
theorem countP_no {p : Nat → Bool} {n : Nat} (h : ∀ k, k < n → p k = false) : (List.range n).countP p = 0 := by
  rw [List.countP_eq_zero]
  intro k hk
  rw [h k (List.mem_range.mp hk)]; decide
theorem cnt_low : ∀ e m w, m < 2 ^ e → w &&& m = w → (List.range (2 ^ e)).countP (fun k => decide (k &&& m = w)) = 2 ^ (e - ones m)
  | 0, m, w, hm, hw => by
    obtain rfl : m = 0 := by simpa using hm
    obtain rfl : w = 0 := by simpa using hw.symm
    simp
  | e + 1, m, w, hm, hw => by
    have hm2 : m / 2 < 2 ^ e := by rw [Nat.pow_succ] at hm; omega
    obtain ⟨s1, s2⟩ := (and_split w m w 1).mp hw
    have hw2 : w / 2 &&& m / 2 = w / 2 := by simpa using s1
    have s2 : w % 2 &&& m % 2 = w % 2 := by simpa using s2
    have ih := cnt_low e (m / 2) (w / 2) hm2 hw2
    have ho := ones_le e (m / 2) hm2
    have hm1 := ones_eq m
    have ev : ∀ k, (2 * k &&& m = w) ↔ (k &&& m / 2 = w / 2 ∧ w % 2 = 0) := fun k => by
      have := and_split (2 * k) m w 1
      rw [show 2 * k / 2 ^ 1 = k by omega, show 2 * k % 2 ^ 1 = 0 by omega, Nat.zero_and] at this
      rw [this]; constructor <;> rintro ⟨a, b⟩ <;> exact ⟨a, by simpa using b.symm⟩
    have od : ∀ k, (2 * k + 1 &&& m = w) ↔ (k &&& m / 2 = w / 2 ∧ m % 2 = w % 2) := fun k => by
      have := and_split (2 * k + 1) m w 1
      rw [show (2 * k + 1) / 2 ^ 1 = k by omega, show (2 * k + 1) % 2 ^ 1 = 1 by omega] at this
      have e1 : 1 &&& m % 2 ^ 1 = m % 2 := by
        rcases Nat.mod_two_eq_zero_or_one m with h | h <;> simp [h]
      rw [e1] at this
      rw [this]
    rw [show 2 ^ (e + 1) = 2 * 2 ^ e by rw [Nat.pow_succ]; omega, countP_double]
    have full : (List.range (2 ^ e)).countP (fun k => decide (k &&& m / 2 = w / 2)) = 2 ^ (e - ones (m / 2)) := ih
    rcases Nat.mod_two_eq_zero_or_one m with h | h
    · have w0 : w % 2 = 0 := by rw [h] at s2; simpa using s2.symm
      rw [countP_eq (q := fun k => decide (k &&& m / 2 = w / 2)) (fun k _ => by rw [decide_eq_decide, ev]; exact ⟨fun z => z.1, fun z => ⟨z, w0⟩⟩),
        countP_eq (q := fun k => decide (k &&& m / 2 = w / 2)) (p := fun k => decide (2 * k + 1 &&& m = w)) (fun k _ => by rw [decide_eq_decide, od]; exact ⟨fun z => z.1, fun z => ⟨z, by omega⟩⟩), full, hm1, h,
        show e + 1 - (0 + ones (m / 2)) = (e - ones (m / 2)) + 1 by omega, Nat.pow_succ]
      omega
    · have e2 : e + 1 - ones m = e - ones (m / 2) := by rw [hm1, h]; omega
      rw [e2]
      rcases Nat.mod_two_eq_zero_or_one w with w0 | w1
      · rw [countP_eq (q := fun k => decide (k &&& m / 2 = w / 2)) (fun k _ => by rw [decide_eq_decide, ev]; exact ⟨fun z => z.1, fun z => ⟨z, w0⟩⟩),
          countP_no (p := fun k => decide (2 * k + 1 &&& m = w)) (fun k _ => decide_eq_false fun z => by have := ((od k).mp z).2; omega), full]
        rfl
      · rw [countP_no (p := fun k => decide (2 * k &&& m = w)) (fun k _ => decide_eq_false fun z => by have := ((ev k).mp z).2; omega),
          countP_eq (q := fun k => decide (k &&& m / 2 = w / 2)) (p := fun k => decide (2 * k + 1 &&& m = w)) (fun k _ => by rw [decide_eq_decide, od]; exact ⟨fun z => z.1, fun z => ⟨z, by omega⟩⟩), full, Nat.zero_add]
/-- how many of n addresses from s on a row meets -/
def cnt (r : Rw) (s n : Nat) : Nat := (List.range n).countP fun k => met r (s + k)
theorem cnt_blk {r : Rw} {m : Nat} (hr : RwOk m r) (h e : Nat) : cnt r (2 ^ e * h) (2 ^ e) = if h &&& r.m / 2 ^ e = r.w / 2 ^ e then 2 ^ (e - ones (r.m % 2 ^ e)) else 0 := by
  have hp : 0 < 2 ^ e := Nat.pow_pos (by decide)
  have sp : ∀ k, k < 2 ^ e → (met r (2 ^ e * h + k) = true ↔ (h &&& r.m / 2 ^ e = r.w / 2 ^ e ∧ k &&& r.m % 2 ^ e = r.w % 2 ^ e)) := fun k hk => by
    unfold met
    rw [decide_eq_true_iff, and_split _ _ _ e, show (2 ^ e * h + k) / 2 ^ e = h by rw [Nat.mul_add_div hp, Nat.div_eq_of_lt hk]; rfl, show (2 ^ e * h + k) % 2 ^ e = k by rw [Nat.mul_add_mod]; exact Nat.mod_eq_of_lt hk]
  have hw := ((and_split r.w r.m r.w e).mp hr.wm).2
  unfold cnt
  by_cases c : h &&& r.m / 2 ^ e = r.w / 2 ^ e
  · rw [if_pos c, ← cnt_low e (r.m % 2 ^ e) (r.w % 2 ^ e) (Nat.mod_lt _ hp) hw]
    refine countP_eq fun k hk => ?_
    rw [Bool.eq_iff_iff, sp k hk, decide_eq_true_iff]
    exact ⟨fun z => z.2, fun z => ⟨c, z⟩⟩
  · rw [if_neg c]
    exact countP_no fun k hk => by rw [Bool.eq_false_iff]; intro z; exact c ((sp k hk).mp z).1
theorem xor_and {h w m : Nat} (hw : w &&& m = w) : (h ^^^ w) &&& m = 0 ↔ h &&& m = w := by
  constructor
  · intro z
    apply Nat.eq_of_testBit_eq; intro i
    have z := congrArg (fun n => Nat.testBit n i) z
    have y := congrArg (fun n => Nat.testBit n i) hw
    simp only [Nat.testBit_and, Nat.testBit_xor, Nat.zero_testBit] at z y ⊢
    revert z y
    cases h.testBit i <;> cases w.testBit i <;> cases m.testBit i <;> simp
  · intro z
    apply Nat.eq_of_testBit_eq; intro i
    have z := congrArg (fun n => Nat.testBit n i) z
    simp only [Nat.testBit_and, Nat.testBit_xor, Nat.zero_testBit] at z ⊢
    revert z
    cases h.testBit i <;> cases w.testBit i <;> cases m.testBit i <;> simp
theorem blk_test {r : Rw} {m : Nat} (hr : RwOk m r) (h e : Nat) : (2 ^ e * h ^^^ r.w) &&& r.m < 2 ^ e ↔ h &&& r.m / 2 ^ e = r.w / 2 ^ e := by
  have hp : 0 < 2 ^ e := Nat.pow_pos (by decide)
  have h1 : ((2 ^ e * h ^^^ r.w) &&& r.m) / 2 ^ e = (h ^^^ r.w / 2 ^ e) &&& r.m / 2 ^ e := by
    apply Nat.eq_of_testBit_eq; intro i
    have e1 : h = 2 ^ e * h / 2 ^ e := (Nat.mul_div_cancel_left h hp).symm
    conv => rhs; rw [e1]
    simp only [Nat.testBit_div_two_pow, Nat.testBit_and, Nat.testBit_xor]
  rw [← Nat.div_eq_zero_iff_lt hp, h1]
  exact xor_and ((and_split r.w r.m r.w e).mp hr.wm).1
def hol (rs : List Rw) (s n : Nat) : Nat := (List.range n).countP fun k => rs.all fun r => !met r (s + k)
def Dis (rs : List Rw) : Prop := rs.Pairwise fun r q => ∀ x, ¬ (met r x = true ∧ met q x = true)
theorem countP_add {p q t : Nat → Bool} (h : ∀ k, (p k).toNat = (q k).toNat + (t k).toNat) : ∀ l : List Nat, l.countP p = l.countP q + l.countP t
  | [] => rfl
  | a :: l => by
    have ih := countP_add h l
    have := h a
    rw [List.countP_cons, List.countP_cons, List.countP_cons, ih]
    revert this
    cases p a <;> cases q a <;> cases t a <;> simp <;> omega
theorem hol_sum {s n : Nat} : ∀ {rs : List Rw}, Dis rs → hol rs s n + (rs.map fun r => cnt r s n).sum = n
  | [], _ => by
    unfold hol
    rw [List.map_nil, List.sum_nil]
    have : (List.range n).countP (fun _ => true) = n := by rw [List.countP_true, List.length_range]
    exact this
  | r :: rs, h => by
    obtain ⟨h1, h2⟩ := List.pairwise_cons.mp h
    have ih := hol_sum (s := s) (n := n) h2
    have : hol rs s n = hol (r :: rs) s n + cnt r s n := by
      refine countP_add (fun k => ?_) _
      rw [List.all_cons]
      cases hm : met r (s + k) with
      | false => simp
      | true =>
        have : (rs.all fun q => !met q (s + k)) = true := List.all_eq_true.mpr fun q hq => by
          cases e : met q (s + k) with
          | false => rfl
          | true => exact absurd ⟨hm, e⟩ (h1 q hq (s + k))
        rw [this]; rfl
    rw [List.map_cons, List.sum_cons]
    omega
theorem hol_add (rs : List Rw) (s a b : Nat) : hol rs s (a + b) = hol rs s a + hol rs (s + a) b := by
  unfold hol
  rw [List.range_add, List.countP_append, List.countP_map]
  congr 1
  apply List.countP_congr
  intro k _
  show (rs.all fun r => !met r (s + (a + k))) = true ↔ (rs.all fun r => !met r (s + a + k)) = true
  rw [Nat.add_assoc]
def isHole (rs : List Rw) (x : Nat) : Bool := rs.all fun r => !met r x
theorem hol_one (rs : List Rw) (s : Nat) : hol rs s 1 = (isHole rs s).toNat := by
  unfold hol isHole
  rw [show List.range 1 = [0] from rfl, List.countP_singleton, Nat.add_zero]
  cases rs.all fun r => !met r s <;> rfl
/-- rows that are awake never meet at once -/
theorem awake_dis {W : Nat → Nat} : ∀ {ws : List (Addr × Rw)}, ws.Pairwise (fun a b => NC a.2 b.2) → Dis ((ws.filter fun z => awk z.2 W).map (·.2)) := fun {ws} h => by
  unfold Dis
  rw [List.pairwise_map]
  refine (List.Pairwise.filter _ h).imp_of_mem ?_
  intro a b ha hb hn x ⟨h1, h2⟩
  have aa := (List.mem_filter.mp ha).2
  have ab := (List.mem_filter.mp hb).2
  have g1 : agr a.2.m a.2.w b.2.m b.2.w = true := fits_agr (w := x) (of_decide_eq_true h1) (of_decide_eq_true h2)
  have g2 : latA a.2.l b.2.l = true := by
    unfold awk at aa ab
    cases e1 : a.2.l with
    | none => rfl
    | some o =>
      cases e2 : b.2.l with
      | none => obtain ⟨c, u, v⟩ := o; rfl
      | some q =>
        obtain ⟨c, u, v⟩ := o
        obtain ⟨d, u', v'⟩ := q
        rw [e1] at aa
        rw [e2] at ab
        show (if c = d then agr u v u' v' else true) = true
        by_cases z : c = d
        · subst z
          rw [if_pos rfl]
          exact fits_agr (w := W c) (of_decide_eq_true aa) (of_decide_eq_true ab)
        · rw [if_neg z]
  have := hn.1
  rw [clash_parts.mpr ⟨g1, g2⟩] at this
  cases this
def spHoles : Sp := fun vs H Q _ => ∃ (L : Addr) (h e m : Nat) (ws : List (Addr × Rw)), vs = [.ref L, .int ((2 ^ e * h : Nat) : Int), .int ((2 ^ e : Nat) : Int)] ∧ e ≤ 16 ∧ m ≤ 16 ∧ H L = some (.lst (refs ws)) ∧ RwsAt2 m H ws ∧ Dis (ws.map (·.2)) ∧ ∀ H', Same H H' → Q (.int (hol (ws.map (·.2)) (2 ^ e * h) (2 ^ e) : Int)) H'
def awks (ws : List (Addr × Rw)) (W : Nat → Nat) : List Rw := (ws.filter fun z => awk z.2 W).map (·.2)
def spUnansw : Sp := fun vs H Q _ => ∃ (p d : Addr) (m : Nat) (ws : List (Addr × Rw)) (keys : List Nat) (g : Nat → Nat), vs = [.int (m : Int), .ref p, .ref d] ∧ m ≤ 16 ∧ H p = some (.tup (refs ws)) ∧ ws.length ≤ 100 ∧ RwsAt2 m H ws ∧ ws.Pairwise (fun a b => NC a.2 b.2) ∧ H d = some (.dK (dV keys g)) ∧ ∀ H', Same H H' → Q (.int (hol (awks ws (wrd keys g)) 0 (2 ^ m) : Int)) H'
def spLeastH : Sp := fun vs H Q _ => ∃ (p d : Addr) (m : Nat) (ws : List (Addr × Rw)) (keys : List Nat) (g : Nat → Nat), vs = [.int (m : Int), .ref p, .ref d] ∧ m ≤ 16 ∧ H p = some (.tup (refs ws)) ∧ ws.length ≤ 100 ∧ RwsAt2 m H ws ∧ ws.Pairwise (fun a b => NC a.2 b.2) ∧ H d = some (.dK (dV keys g)) ∧
  (hol (awks ws (wrd keys g)) 0 (2 ^ m) = 0 → ∀ H', Same H H' → Q .non H') ∧ ∀ x : Nat, x < 2 ^ m → isHole (awks ws (wrd keys g)) x = true → hol (awks ws (wrd keys g)) 0 x = 0 → ∀ H', Same H H' → Q (.int (x : Int)) H'
/-! ### k13: small maps, gone through by all addresses and words -/
def LatS : Option (Nat × Nat × Nat) → Prop
  | none => True
  | some (c, a, b) => c < 2 ∧ a < 4 ∧ b &&& a = b
theorem LatS.ok : ∀ {o : Option (Nat × Nat × Nat)}, LatS o → LatOk o
  | none, _ => trivial
  | some (c, a, b), ⟨h1, h2, h3⟩ => ⟨by omega, by omega, h3⟩
def spRow13 : Sp := fun vs H Q _ => ∃ (p : Addr) (m n : Nat), vs = [.ref p, .int (m : Int)] ∧ FeedAt H p n ∧ n + 100 < 2 ^ 40 ∧ m ≤ 4 ∧
  ∀ (t : Addr) (H' : Hp) (r : Rw), RwAt H' t r → RwOk m r → LatS r.l → FeedAt H' p (n + 100) → KeepP p H H' → Q (.ref t) H'
/-- the numbers of the rows that answer -/
def ansL (rs : List Rw) (x : Nat) (W : Nat → Nat) (n : Nat) : List Nat := (List.range n).filter fun k => match rs[k]? with | some r => ans r x W | none => false
theorem ansL_succ (rs : List Rw) (x : Nat) (W : Nat → Nat) (n : Nat) : ansL rs x W (n + 1) = ansL rs x W n ++ (match rs[n]? with | some r => if ans r x W = true then [n] else [] | none => []) := by
  unfold ansL
  rw [List.range_succ, List.filter_append]
  congr 1
  cases h : rs[n]? with
  | none => simp [h]
  | some r =>
    by_cases e : ans r x W = true
    · simp [h, e]
    · simp [h, e]
theorem ansL_mem {rs : List Rw} {x k : Nat} {W : Nat → Nat} {n : Nat} : k ∈ ansL rs x W n ↔ k < n ∧ ∃ r, rs[k]? = some r ∧ ans r x W = true := by
  unfold ansL
  rw [List.mem_filter, List.mem_range]
  constructor
  · rintro ⟨h1, h2⟩
    refine ⟨h1, ?_⟩
    cases h : rs[k]? with
    | none => rw [h] at h2; cases h2
    | some r => rw [h] at h2; exact ⟨r, rfl, h2⟩
  · rintro ⟨h1, r, h2, h3⟩
    exact ⟨h1, by rw [h2]; exact h3⟩
theorem ansL_len (rs : List Rw) (x : Nat) (W : Nat → Nat) (n : Nat) : (ansL rs x W n).length ≤ n := Nat.le_trans (List.length_filter_le _ _) (by rw [List.length_range]; exact Nat.le_refl _)
theorem ansL_sorted (rs : List Rw) (x : Nat) (W : Nat → Nat) (n : Nat) : (ansL rs x W n).Pairwise (· < ·) := List.Pairwise.filter _ List.pairwise_lt_range
def w2 (a b : Nat) : Nat → Nat := fun c => if c = 0 then a else b
def spAnsL : Sp := fun vs H Q _ => ∃ (p d : Addr) (m x a b : Nat) (ws : List (Addr × Rw)), vs = [.ref p, .int (x : Int), .ref d] ∧ H p = some (.tup (refs ws)) ∧ ws.length ≤ 10 ∧ (∀ z ∈ ws, RwAt H z.1 z.2 ∧ LatS z.2.l) ∧ H d = some (.dK (dV [0, 1] (w2 a b))) ∧
  ∀ (l : Addr) (H' : Hp), H l = none → H' l = some (.lst (vN (ansL (ws.map (·.2)) x (wrd [0, 1] (w2 a b)) ws.length))) → Same H H' → Q (.ref l) H'
theorem disp_is (a b : Nat) : mergeK [] [((Sum.inl 0 : Key), V.int (a : Int)), ((Sum.inl 1 : Key), V.int (b : Int))] = dV [0, 1] (w2 a b) := by
  simp [mergeK, putK, dV, dN, w2]
def spLeast13 : Sp := fun vs H Q _ => ∃ (L t u : Addr) (r q : Rw), vs = [.ref L] ∧ H L = some (.lst [.ref t, .ref u]) ∧ RwAt H t r ∧ RwAt H u q ∧ LatS r.l ∧ LatS q.l ∧ latA r.l q.l = true ∧ ∀ (p : Addr) (H' : Hp), H p = none → PrsAt H' p (lwL r.l q.l) → Same H H' → Q (.ref p) H'
/-- both answer at x by some words -/
def pr13 (rs : List Rw) (x i j : Nat) : Prop := i < j ∧ ∃ r q, rs[i]? = some r ∧ rs[j]? = some q ∧ clash r q = true ∧ met r x = true ∧ met q x = true
theorem pr_ans {rs : List Rw} {x i j a b : Nat} (hij : i < j) (h1 : i ∈ ansL rs x (wrd [0, 1] (w2 a b)) rs.length) (h2 : j ∈ ansL rs x (wrd [0, 1] (w2 a b)) rs.length) : pr13 rs x i j := by
  obtain ⟨_, r, e1, g1⟩ := ansL_mem.mp h1
  obtain ⟨_, q, e2, g2⟩ := ansL_mem.mp h2
  unfold ans at g1 g2
  rw [Bool.and_eq_true] at g1 g2
  refine ⟨hij, r, q, e1, e2, ?_, g1.1, g2.1⟩
  cases hc : clash r q with
  | true => rfl
  | false =>
    have m1 : r.m &&& x = r.w := by rw [Nat.and_comm]; exact of_decide_eq_true g1.1
    have f1 : agr r.m r.w q.m q.w = true := fits_agr (w := x) (of_decide_eq_true g1.1) (of_decide_eq_true g2.1)
    have aa := g1.2
    have ab := g2.2
    have f2 : latA r.l q.l = true := by
      unfold awk at aa ab
      cases l1 : r.l with
      | none => rfl
      | some o =>
        cases l2 : q.l with
        | none => obtain ⟨c, u, v⟩ := o; rfl
        | some o2 =>
          obtain ⟨c, u, v⟩ := o
          obtain ⟨d, u', v'⟩ := o2
          rw [l1] at aa
          rw [l2] at ab
          show (if c = d then agr u v u' v' else true) = true
          by_cases z : c = d
          · subst z; rw [if_pos rfl]; exact fits_agr (w := wrd [0, 1] (w2 a b) c) (of_decide_eq_true aa) (of_decide_eq_true ab)
          · rw [if_neg z]
    rw [clash_parts.mpr ⟨f1, f2⟩] at hc
    cases hc
theorem and_lt4 {a b : Nat} (h : b &&& a = b) (ha : a < 4) : b < 4 := by
  have : b &&& a ≤ a := Nat.and_le_right
  omega
/-- words by which both of two clashing rows are awake -/
theorem words_of {r q : Rw} (hr : LatS r.l) (hq : LatS q.l) (h : latA r.l q.l = true) : ∃ a b, a < 4 ∧ b < 4 ∧ awk r (wrd [0, 1] (w2 a b)) = true ∧ awk q (wrd [0, 1] (w2 a b)) = true := by
  have one : ∀ {c u v : Nat}, c < 2 → u < 4 → v &&& u = v → ∃ a b, a < 4 ∧ b < 4 ∧ wrd [0, 1] (w2 a b) c &&& u = v := fun {c u v} hc hu hv => by
    have hv4 := and_lt4 hv hu
    rcases (show c = 0 ∨ c = 1 by omega) with rfl | rfl
    · exact ⟨v, 0, hv4, by omega, hv⟩
    · exact ⟨0, v, by omega, hv4, hv⟩
  unfold awk
  cases l1 : r.l with
  | none =>
    cases l2 : q.l with
    | none => exact ⟨0, 0, by omega, by omega, rfl, rfl⟩
    | some o =>
      obtain ⟨c, u, v⟩ := o
      rw [l2] at hq
      obtain ⟨a, b, ha, hb, hh⟩ := one hq.1 hq.2.1 hq.2.2
      exact ⟨a, b, ha, hb, rfl, decide_eq_true hh⟩
  | some o =>
    obtain ⟨c, u, v⟩ := o
    rw [l1] at hr
    cases l2 : q.l with
    | none =>
      obtain ⟨a, b, ha, hb, hh⟩ := one hr.1 hr.2.1 hr.2.2
      exact ⟨a, b, ha, hb, decide_eq_true hh, rfl⟩
    | some o2 =>
      obtain ⟨d, u', v'⟩ := o2
      rw [l2] at hq
      rw [l1, l2] at h
      have h : (if c = d then agr u v u' v' else true) = true := h
      have hv := and_lt4 hr.2.2 hr.2.1
      have hv' := and_lt4 hq.2.2 hq.2.1
      by_cases z : c = d
      · subst z
        rw [if_pos rfl] at h
        obtain ⟨f1, f2⟩ := agr_fits hr.2.2 hq.2.2 h
        have hor : v ||| v' < 4 := Nat.or_lt_two_pow (n := 2) hv hv'
        rcases (show c = 0 ∨ c = 1 by have := hr.1; omega) with rfl | rfl
        · exact ⟨v ||| v', 0, hor, by omega, decide_eq_true f1, decide_eq_true f2⟩
        · exact ⟨0, v ||| v', by omega, hor, decide_eq_true f1, decide_eq_true f2⟩
      · have := hr.1
        have := hq.1
        rcases (show c = 0 ∧ d = 1 ∨ c = 1 ∧ d = 0 by omega) with ⟨rfl, rfl⟩ | ⟨rfl, rfl⟩
        · exact ⟨v, v', hv, hv', decide_eq_true hr.2.2, decide_eq_true hq.2.2⟩
        · exact ⟨v', v, hv', hv, decide_eq_true hr.2.2, decide_eq_true hq.2.2⟩
theorem ans_pr {rs : List Rw} {x i j : Nat} (hs : ∀ r ∈ rs, LatS r.l) (h : pr13 rs x i j) : ∃ a b, a < 4 ∧ b < 4 ∧ i ∈ ansL rs x (wrd [0, 1] (w2 a b)) rs.length ∧ j ∈ ansL rs x (wrd [0, 1] (w2 a b)) rs.length := by
  obtain ⟨hij, r, q, e1, e2, hc, m1, m2⟩ := h
  obtain ⟨a, b, ha, hb, g1, g2⟩ := words_of (hs r (List.mem_of_getElem? e1)) (hs q (List.mem_of_getElem? e2)) (clash_parts.mp hc).2
  exact ⟨a, b, ha, hb, ansL_mem.mpr ⟨(List.getElem?_eq_some_iff.mp e1).1, r, e1, by unfold ans; rw [m1, g1]; rfl⟩, ansL_mem.mpr ⟨(List.getElem?_eq_some_iff.mp e2).1, q, e2, by unfold ans; rw [m2, g2]; rfl⟩⟩
/-- at the first address at which two rows answer the least pair is the clash due -/
theorem first_due {rs : List Rw} {m x i j : Nat} (hok : ∀ r ∈ rs, RwOk m r) (h : pr13 rs x i j) (hx : ∀ y, y < x → ∀ k l, ¬ pr13 rs y k l) (hmin : ∀ k l, pr13 rs x k l → i < k ∨ (i = k ∧ j ≤ l)) : IsDue rs x i j := by
  have low : ∀ {y k l}, pr13 rs y k l → ∀ r q, rs[k]? = some r → rs[l]? = some q → (r.w ||| q.w) ≤ y ∧ pr13 rs (r.w ||| q.w) k l := fun {y k l} hp r q e1 e2 => by
    obtain ⟨hkl, r', q', f1, f2, hc, m1, m2⟩ := hp
    rw [e1] at f1; cases f1
    rw [e2] at f2; cases f2
    have g1 : y &&& r.m = r.w := of_decide_eq_true m1
    have g2 : y &&& q.m = q.w := of_decide_eq_true m2
    obtain ⟨o1, o2⟩ := or_fits g1 g2
    exact ⟨by rw [or_of g1 g2]; exact Nat.and_le_left, hkl, r, q, e1, e2, hc, decide_eq_true o1, decide_eq_true o2⟩
  obtain ⟨hij, r, q, e1, e2, hc, m1, m2⟩ := id h
  obtain ⟨l1, l2⟩ := low h r q e1 e2
  have ex : x = r.w ||| q.w := by
    rcases (show (r.w ||| q.w) = x ∨ (r.w ||| q.w) < x by omega) with z | z
    · exact z.symm
    · exact absurd l2 (hx _ z i j)
  refine ⟨⟨hij, r, q, e1, e2, hc, ex⟩, fun k l y hcand => ?_⟩
  obtain ⟨hkl, r', q', f1, f2, hc', ey⟩ := hcand
  have g1 := (hok r' (List.mem_of_getElem? f1)).wm
  have g2 := (hok q' (List.mem_of_getElem? f2)).wm
  obtain ⟨o1, o2⟩ := agr_fits g1 g2 (clash_parts.mp hc').1
  have hp : pr13 rs y k l := ⟨hkl, r', q', f1, f2, hc', by rw [ey]; exact decide_eq_true o1, by rw [ey]; exact decide_eq_true o2⟩
  unfold lexLe
  rcases (show y < x ∨ x = y ∨ x < y by omega) with z | z | z
  · exact absurd hp (hx y z k l)
  · subst z
    have := hmin k l hp
    omega
  · exact .inl z
theorem no_due {rs : List Rw} {m : Nat} (hok : ∀ r ∈ rs, RwOk m r) (h : ∀ y, y < 2 ^ m → ∀ k l, ¬ pr13 rs y k l) : ∀ i j x, ¬ cand rs i j x := fun i j x hcand => by
  obtain ⟨hkl, r', q', f1, f2, hc', ey⟩ := hcand
  have k1 := hok r' (List.mem_of_getElem? f1)
  have k2 := hok q' (List.mem_of_getElem? f2)
  obtain ⟨o1, o2⟩ := agr_fits k1.wm k2.wm (clash_parts.mp hc').1
  exact h x (by rw [ey]; exact Nat.or_lt_two_pow k1.w0 k2.w0) i j ⟨hkl, r', q', f1, f2, hc', by rw [ey]; exact decide_eq_true o1, by rw [ey]; exact decide_eq_true o2⟩
/-- rows without a clash never answer at once -/
theorem nc_of {ws : List (Addr × Rw)} (h : ∀ i j x, ¬ cand (ws.map (·.2)) i j x) : ws.Pairwise fun a b => clash a.2 b.2 = false := by
  rw [List.pairwise_iff_getElem]
  intro i j hi hj hij
  cases e : clash ws[i].2 ws[j].2 with
  | false => rfl
  | true => exact absurd ⟨hij, ws[i].2, ws[j].2, by rw [List.getElem?_map, List.getElem?_eq_getElem hi]; rfl, by rw [List.getElem?_map, List.getElem?_eq_getElem hj]; rfl, e, rfl⟩ (h i j _)
def spFirst : Sp := fun vs H Q _ => ∃ (p : Addr) (m : Nat) (ws : List (Addr × Rw)), vs = [.ref p, .int ((2 ^ m : Nat) : Int)] ∧ m ≤ 4 ∧ H p = some (.tup (refs ws)) ∧ ws.length ≤ 10 ∧ (∀ z ∈ ws, RwAt H z.1 z.2 ∧ RwOk m z.2 ∧ LatS z.2.l) ∧
  ((∀ i j x, ¬ cand (ws.map (·.2)) i j x) → ∀ H', Same H H' → Q .non H') ∧
  (∀ (x i j : Nat) (r q : Rw), IsDue (ws.map (·.2)) x i j → (ws.map (·.2))[i]? = some r → (ws.map (·.2))[j]? = some q → ∀ (tp wp : Addr) (H' : Hp), H' tp = some (.tup [.int (x : Int), .int (i : Int), .int (j : Int), .ref wp]) → PrsAt H' wp (lwL r.l q.l) → Same H H' → Q (.ref tp) H')
theorem lex2 (i j k l : Int) : HT.lexLt [i, j] [k, l] = decide (i < k ∨ (i = k ∧ j < l)) := by
  rw [HT.lexLt_cons]
  by_cases h2 : i = k
  · rw [if_pos h2, HT.lexLt_cons]
    by_cases h3 : j = l
    · rw [if_pos h3, HT.lexLt_nil_nil]; symm; apply decide_eq_false; omega
    · rw [if_neg h3, decide_eq_decide]; omega
  · rw [if_neg h2, decide_eq_decide]; omega
def pr2 (q : Nat × Nat) : List Int := [(q.1 : Int), (q.2 : Int)]
theorem best_pair {L : List (Nat × Nat)} {ns : List Int} (h : (L.map pr2)[PySem.argBest (fun a b => HT.lexLt ((L.map pr2).getD a []) ((L.map pr2).getD b [])) ((L.map pr2).length - 1)]? = some ns) :
    ∃ i j : Nat, ns = [(i : Int), (j : Int)] ∧ (i, j) ∈ L ∧ ∀ q ∈ L, i < q.1 ∨ (i = q.1 ∧ j ≤ q.2) := by
  have hpos : 0 < (L.map pr2).length := Nat.lt_of_le_of_lt (Nat.zero_le _) (List.getElem?_eq_some_iff.mp h).1
  have at_ : ∀ a, a ≤ (L.map pr2).length - 1 → ∃ i j : Int, (L.map pr2).getD a [] = [i, j] := fun a ha => by
    have e : (L.map pr2)[a]? = some ((L.map pr2)[a]'(by omega)) := List.getElem?_eq_getElem (by omega)
    obtain ⟨q, _, e2⟩ := List.mem_map.mp (List.mem_of_getElem? e)
    exact ⟨(q.1 : Int), (q.2 : Int), by rw [List.getD_eq_getElem?_getD, e, ← e2]; rfl⟩
  have hmin := best_min (fun i j => HT.lexLt ((L.map pr2).getD i []) ((L.map pr2).getD j [])) ((L.map pr2).length - 1)
    (fun a b c ha hb hc h1 h2 => by
      obtain ⟨i1, j1, e1⟩ := at_ a ha
      obtain ⟨i2, j2, e2⟩ := at_ b hb
      obtain ⟨i3, j3, e3⟩ := at_ c hc
      rw [e1, e2, lex2, decide_eq_false_iff_not] at h1
      rw [e2, e3, lex2, decide_eq_false_iff_not] at h2
      rw [e1, e3, lex2, decide_eq_false_iff_not]
      omega)
    (fun a ha => by
      obtain ⟨i1, j1, e1⟩ := at_ a ha
      rw [e1, lex2, decide_eq_false_iff_not]
      omega)
    (fun a b ha hb h1 => by
      obtain ⟨i1, j1, e1⟩ := at_ a ha
      obtain ⟨i2, j2, e2⟩ := at_ b hb
      rw [e1, e2, lex2, decide_eq_true_iff] at h1
      rw [e2, e1, lex2, decide_eq_false_iff_not]
      omega) ((L.map pr2).length - 1) (Nat.le_refl _)
  obtain ⟨⟨i, j⟩, hq, e0⟩ := List.mem_map.mp (List.mem_of_getElem? h)
  refine ⟨i, j, e0.symm, hq, fun q hq' => ?_⟩
  obtain ⟨k, hk⟩ := List.mem_iff_getElem?.mp (List.mem_map.mpr ⟨q, hq', rfl⟩ : pr2 q ∈ L.map pr2)
  have hk2 : k < (L.map pr2).length := (List.getElem?_eq_some_iff.mp hk).1
  have := hmin k (by omega)
  rw [List.getD_eq_getElem?_getD, hk, List.getD_eq_getElem?_getD, h, ← e0] at this
  rw [show (some (pr2 q)).getD [] = [(q.1 : Int), (q.2 : Int)] from rfl, show (some (pr2 (i, j))).getD [] = [(i : Int), (j : Int)] from rfl, lex2, decide_eq_false_iff_not] at this
  omega
/-- what answers at x, by the words of a turn -/
def An (rs : List Rw) (x t : Nat) : List Nat := ansL rs x (wrd [0, 1] (w2 (t % 4) (t / 4))) rs.length
theorem An_lt {rs : List Rw} {x t k l i j : Nat} (h1 : (An rs x t)[k]? = some i) (h2 : (An rs x t)[l]? = some j) (h : k < l) : i < j := by
  have := List.pairwise_iff_getElem.mp (ansL_sorted rs x (wrd [0, 1] (w2 (t % 4) (t / 4))) rs.length)
  obtain ⟨a1, rfl⟩ := List.getElem?_eq_some_iff.mp h1
  obtain ⟨a2, rfl⟩ := List.getElem?_eq_some_iff.mp h2
  exact this k l a1 a2 h
theorem An_gt {rs : List Rw} {x t k l i j : Nat} (h1 : (An rs x t)[k]? = some i) (h2 : (An rs x t)[l]? = some j) (h : i < j) : k < l := by
  rcases (show k < l ∨ k = l ∨ l < k by omega) with z | z | z
  · exact z
  · subst z; rw [h1] at h2; cases h2; omega
  · have := An_lt h2 h1 z; omega
def Snd (rs : List Rw) (x : Nat) (prs : List (Nat × Nat)) : Prop := ∀ q ∈ prs, pr13 rs x q.1 q.2
def Cmp (rs : List Rw) (x T : Nat) (prs : List (Nat × Nat)) : Prop := ∀ t, t < T → ∀ i j, i < j → i ∈ An rs x t → j ∈ An rs x t → (i, j) ∈ prs
theorem cmp_all {rs : List Rw} {x i j : Nat} {prs : List (Nat × Nat)} (hs : ∀ r ∈ rs, LatS r.l) (h : Cmp rs x 16 prs) (hp : pr13 rs x i j) : (i, j) ∈ prs := by
  obtain ⟨a, b, ha, hb, g1, g2⟩ := ans_pr hs hp
  have e1 : (a + 4 * b) % 4 = a := by omega
  have e2 : (a + 4 * b) / 4 = b := by omega
  refine h (a + 4 * b) (by omega) i j hp.1 ?_ ?_
  · unfold An; rw [e1, e2]; exact g1
  · unfold An; rw [e1, e2]; exact g2
/-- the pairs of the k-th that answers -/
def kPr (L : List Nat) (k v : Nat) : List (Nat × Nat) := (L.drop (k + 1)).map fun u => (v, u)
theorem kPr_snd {rs : List Rw} {x t k v : Nat} (h : (An rs x t)[k]? = some v) : Snd rs x (kPr (An rs x t) k v) := fun q hq => by
  obtain ⟨u, hu, rfl⟩ := List.mem_map.mp hq
  obtain ⟨l, hl⟩ := List.mem_iff_getElem?.mp hu
  rw [List.getElem?_drop] at hl
  exact pr_ans (An_lt h hl (by omega)) (List.mem_of_getElem? h) (List.mem_of_getElem? hl)
theorem kPr_mem {L : List Nat} {k v l u : Nat} (h : L[l]? = some u) (hl : k < l) : (v, u) ∈ kPr L k v := by
  refine List.mem_map.mpr ⟨u, ?_, rfl⟩
  refine List.mem_of_getElem? (i := l - (k + 1)) ?_
  rw [List.getElem?_drop, show k + 1 + (l - (k + 1)) = l by omega]; exact h
theorem kPr_len (L : List Nat) (k v : Nat) : (kPr L k v).length ≤ L.length := by unfold kPr; rw [List.length_map, List.length_drop]; omega
theorem FndAt.app {X : Hp} {ts us : List Addr} {nss mss : List (List Int)} (h : FndAt X ts nss) (g : FndAt X us mss) : FndAt X (ts ++ us) (nss ++ mss) := by
  refine ⟨by rw [List.length_append, List.length_append, h.1, g.1], fun i t ns e1 e2 => ?_⟩
  by_cases hi : i < ts.length
  · rw [List.getElem?_append_left hi] at e1
    rw [List.getElem?_append_left (by have := h.1; omega)] at e2
    exact h.2 i t ns e1 e2
  · rw [List.getElem?_append_right (by omega)] at e1
    rw [List.getElem?_append_right (by have := h.1; omega)] at e2
    exact g.2 (i - ts.length) t ns e1 (by rw [h.1]; exact e2)

structure Nums (mg : Str → Option Value) : Prop where

abbrev ssingle_ones : Stmt := top 1
theorem scsingle_ones : FnScope ["mask", "singles", "rest"] ["mask"] (defScope ssingle_ones) := ⟨rfl, rfl, rfl, by decide +kernel, rfl, by decide +kernel, by decide +kernel⟩
section
variable {P : Program} {w : World} {K : PySem.W.Frag} {mg : Str → Option Value} {base : Heap}
theorem oksingle_ones {f : Addr} {fd : FuncData} (F : Fun K "single_ones" "single_ones" ssingle_ones f fd) (T : Blt mg) : FnOk P w K mg base CX0 1 f fd ["mask"] spSingles := by
  refine F.ok scsingle_ones (fun vs H Q E h => ?_) (fun cdv A outer s H vs Q E hr h => ?_)
  · obtain ⟨n, rfl, _⟩ := h; rfl
  · obtain ⟨n, rfl, hn, k⟩ := h
    refine ⟨_, (pss_cons (ps_set (i := 1) scsingle_ones.nd rfl (Or.inl rfl) (pe_lst pa_nil))
      (pss_cons (ps_while PassesOwn.never (pt_cmpR op_gt (pv 0) pe_int (nomark _)) (pss_cons (ps_set (i := 2) scsingle_ones.nd rfl (Or.inl rfl) (pe_op op_and (pv 0) (pe_op op_sub (pv 0) pe_int)))
      (pss_cons (ps_expr (pe_bm PySem.F.plainAttrs_list PySem.F.slot_list_append PySem.F.type_list_append mt_append (pv 1) (pa_cons (pe_op op_sub (pv 0) (pv 2)) pa_nil)))
      (pss_one (ps_set (i := 0) scsingle_ones.nd rfl (Or.inl rfl) (pv 2))))))
      (pss_one (ps_ret (pv 1))))), ?rd⟩
    refine ⟨by show 0 ≤ sizeLine; decide, fun l hl => ?_⟩
    refine while_by (fun σ H2 => ∃ (m : Nat) (r : Option V) (d : List Nat), σ = [some (.int (m : Int)), some (.ref l), r] ∧ m < 2 ^ 64 ∧ Same H H2 ∧ H2 l = some (.lst (vN d)) ∧ d ++ sgl m = sgl n) (fun σ _ => match σ with | some (.int i) :: _ => i.toNat | _ => 0)
      ⟨n, none, [], rfl, hn, same_new hl, upd_same, rfl⟩ ?_ ?_
    · rintro σ H2 ⟨m, r, d, rfl, hm, hs, hL, hd⟩
      walk_at "vc"
      refine ite2 (fun h1 => ?_) (fun h1 => ?_)
      · have h1 : 0 < m := by have := of_decide_eq_true h1; omega
        obtain ⟨s1, s2⟩ := sgl_step m h1
        have e1 : ((m : Int) - 1) = ((m - 1 : Nat) : Int) := by omega
        walk_at "vc"
        have hlen : (vN d).length < sizeLine := by
          have h2 := congrArg List.length hd
          rw [List.length_append, sgl_length, sgl_length] at h2
          have h3 := ones_le 64 n hn
          rw [vN_length]; exact small1000 (by omega)
        refine ⟨.inl ⟨rfl, _, SqL.of hL⟩, ?_⟩
        walk_at "vc"
        refine ⟨l, _, _, rfl, rfl, hL, hlen, ?_⟩
        walk_at "vc"
        have e2 : Builtin.bitAnd (m : Int) ((m : Int) - 1) = ((m &&& (m - 1) : Nat) : Int) := by rw [e1, band]
        have e3 : (m : Int) - Builtin.bitAnd (m : Int) ((m : Int) - 1) = ((m - (m &&& (m - 1)) : Nat) : Int) := by rw [e2]; omega
        refine ⟨⟨m &&& (m - 1), some (.int ((m &&& (m - 1) : Nat) : Int)), d ++ [m - (m &&& (m - 1))], ?_, by omega, fun b o e => ?_, ?_, ?_⟩, ?_⟩
        · show List.set (List.set _ _ _) _ _ = _
          simp only [List.set]
          rw [e2]
        · rw [upd_ne (ne_of_none e hl)]; exact hs b o e
        · rw [upd_same, vN_snoc, ← e3]
        · rw [← hd, s2]; simp
        · show (Builtin.bitAnd (m : Int) ((m : Int) - 1)).toNat < ((m : Nat) : Int).toNat
          rw [e2]; simpa using s1
      · have h1 : m = 0 := by have := h1; simp at this; omega
        subst h1
        walk_at "vc"
        rw [sgl_zero, List.append_nil] at hd
        subst hd
        exact k l H2 hl hL hs
    · rintro σ H2 Q1 Q2 hq h
      obtain ⟨v, e, i, j, e1, e2, c, e3, h⟩ := h
      exact ⟨v, e, i, j, e1, e2, c, e3, hq _ _ h⟩
end
abbrev sones_of : Stmt := top 2
theorem scones_of : FnScope ["mask"] ["mask"] (defScope sones_of) := ⟨rfl, rfl, rfl, by decide +kernel, rfl, by decide +kernel, by decide +kernel⟩
section
variable {P : Program} {w : World} {K : PySem.W.Frag} {mg : Str → Option Value} {base : Heap}
theorem okones_of {f : Addr} {fd : FuncData} (F : Fun K "ones_of" "ones_of" sones_of f fd) (T : Blt mg) (Gsingle_ones : Cal P w K mg base 1 "single_ones" ["mask"] spSingles) : FnOk P w K mg base CX0 2 f fd ["mask"] spOnes := by
  refine F.ok scones_of (fun vs H Q E h => ?_) (fun cdv A outer s H vs Q E hr h => ?_)
  · obtain ⟨n, rfl, _⟩ := h; rfl
  · obtain ⟨n, rfl, hn, k⟩ := h
    refine ⟨_, (pss_one (ps_ret (pe_callB call_len_seq (by rfl) T.len PySem.boot_len (pa_cons (pe_cal Gsingle_ones (hr.mono (by first | decide | omega)) rfl (pa_cons (pv 0) pa_nil)) pa_nil)))), ?rd⟩
    refine ⟨_, rfl, n, rfl, hn, fun p H' hp hL hs => ?_⟩
    refine ⟨p, _, rfl, .inl (SqL.of hL), ?_⟩
    rw [vN_length, sgl_length]
    exact k H' hs
end
abbrev ssize_of : Stmt := top 4
theorem scsize_of : FnScope ["bits"] ["bits"] (defScope ssize_of) := ⟨rfl, rfl, rfl, by decide +kernel, rfl, by decide +kernel, by decide +kernel⟩
section
variable {P : Program} {w : World} {K : PySem.W.Frag} {mg : Str → Option Value} {base : Heap}
theorem oksize_of {f : Addr} {fd : FuncData} (F : Fun K "size_of" "size_of" ssize_of f fd) (T : Blt mg) : FnOk P w K mg base CX0 1 f fd ["bits"] spSize := by
  refine F.ok scsize_of (fun vs H Q E h => ?_) (fun cdv A outer s H vs Q E hr h => ?_)
  · obtain ⟨n, rfl, _⟩ := h; rfl
  · obtain ⟨n, rfl, hn, k⟩ := h
    refine ⟨_, (pss_one (ps_ret (pe_op op_shl pe_int (pe_callB (call_max2 rfl) (by rfl) T.max PyProof.Rows.boot_max (pa_cons (pv 0) (pa_cons pe_int pa_nil)))))), ?rd⟩
    refine ⟨_, rfl, _, _, rfl, ?_⟩
    refine ⟨_, _, rfl, rfl, ?_, ?_⟩
    · rw [if_neg (by omega)]
      exact ⟨by omega, by omega, by decide⟩
    · have e : (1 : Int) * 2 ^ (if (0 : Int) > (n : Int) then 0 else (n : Int)).toNat = 2 ^ n := by
        rw [if_neg (by omega), Int.one_mul, Int.toNat_natCast]
      show Q (V.int ((1 : Int) * 2 ^ (if (0 : Int) > (n : Int) then 0 else (n : Int)).toNat)) H
      rw [e]
      exact k
end
abbrev schoices_agree : Stmt := top 7
theorem scchoices_agree : FnScope ["mask", "want", "other_mask", "other_want"] ["mask", "want", "other_mask", "other_want"] (defScope schoices_agree) := ⟨rfl, rfl, rfl, by decide +kernel, rfl, by decide +kernel, by decide +kernel⟩
section
variable {P : Program} {w : World} {K : PySem.W.Frag} {mg : Str → Option Value} {base : Heap}
theorem okchoices_agree {f : Addr} {fd : FuncData} (F : Fun K "choices_agree" "choices_agree" schoices_agree f fd) (T : Blt mg) : FnOk P w K mg base CX0 1 f fd ["mask", "want", "other_mask", "other_want"] spAgr := by
  refine F.ok scchoices_agree (fun vs H Q E h => ?_) (fun cdv A outer s H vs Q E hr h => ?_)
  · obtain ⟨m, x, n, v, rfl, _⟩ := h; rfl
  · obtain ⟨m, x, n, v, rfl, k⟩ := h
    refine ⟨_, (pss_one (ps_ret (pe_cmpR op_eq (pe_op op_and (pe_op op_and (pe_op op_xor (pv 1) (pv 3)) (pv 0)) (pv 2)) pe_int (nomark _)))), ?rd⟩
    refine ⟨_, rfl, _, rfl, _, _, rfl, rfl, _, rfl, _, _, rfl, rfl, _, rfl, _, _, rfl, rfl, rfl, ?_⟩
    have e : decide (V.int (Builtin.bitAnd (Builtin.bitAnd (Builtin.bitXor (x : Int) (v : Int)) (m : Int)) (n : Int)) = V.int 0) = agr m x n v := by
      rw [bxor, band, band]
      unfold agr
      exact decide_eq_decide.mpr ⟨fun h => by have := V.int.inj h; omega, fun h => by rw [h]; rfl⟩
    exact Eq.mpr (congrArg (fun b => Q (V.bl b) H) e) k
end
abbrev slatches_agree : Stmt := top 8
theorem sclatches_agree : FnScope ["latch", "other"] ["latch", "other"] (defScope slatches_agree) := ⟨rfl, rfl, rfl, by decide +kernel, rfl, by decide +kernel, by decide +kernel⟩
section
variable {P : Program} {w : World} {K : PySem.W.Frag} {mg : Str → Option Value} {base : Heap}
theorem oklatches_agree {f : Addr} {fd : FuncData} (F : Fun K "latches_agree" "latches_agree" slatches_agree f fd) (T : Blt mg) (Gchoices_agree : Cal P w K mg base 1 "choices_agree" ["mask", "want", "other_mask", "other_want"] spAgr) : FnOk P w K mg base CX0 2 f fd ["latch", "other"] spLatA := by
  refine F.ok sclatches_agree (fun vs H Q E h => ?_) (fun cdv A outer s H vs Q E hr h => ?_)
  · obtain ⟨x, y, o, p, rfl, _⟩ := h; rfl
  · obtain ⟨x, y, o, p, rfl, hx, hy, k⟩ := h
    refine ⟨_, (pss_cons (ps_if (PW.pt (pw_or (pt_cmp (pc_isN (pv 0))) (pw_or (pt_cmp (pc_isN (pv 1))) (pw_or1 (pt_cmpR op_ne (pe_ix ix_tup (pv 0) pe_int (fun _ _ => rfl)) (pe_ix ix_tup (pv 1) pe_int (fun _ _ => rfl)) (nomark _)))))) (pss_one (ps_ret pe_bl)) pss_nil)
      (pss_one (ps_ret (pe_cal Gchoices_agree (hr.mono (by first | decide | omega)) rfl (pa_cons (pe_ix ix_tup (pv 0) pe_int (fun _ _ => rfl)) (pa_cons (pe_ix ix_tup (pv 0) pe_int (fun _ _ => rfl)) (pa_cons (pe_ix ix_tup (pv 1) pe_int (fun _ _ => rfl)) (pa_cons (pe_ix ix_tup (pv 1) pe_int (fun _ _ => rfl)) pa_nil)))))))), ?rd⟩
    cases o with
    | none =>
      obtain rfl : x = .non := hx
      exact ⟨_, rfl, _, rfl, iteT (iteT k)⟩
    | some o =>
      obtain ⟨c, a, b⟩ := o
      obtain ⟨u, rfl, eu⟩ := hx
      refine ⟨_, rfl, _, rfl, iteF ?_⟩
      cases p with
      | none =>
        obtain rfl : y = .non := hy
        exact ⟨_, rfl, _, rfl, iteT (iteT k)⟩
      | some p =>
        obtain ⟨d, x', y'⟩ := p
        obtain ⟨u', rfl, eu'⟩ := hy
        refine ⟨_, rfl, _, rfl, iteF ?_⟩
        refine ⟨_, rfl, u, _, _, _, rfl, rfl, SqT.of eu, rfl, _, rfl, u', _, _, _, rfl, rfl, SqT.of eu', rfl, rfl, _, rfl, ?_⟩
        by_cases h : c = d
        · subst h
          rw [show (!decide (V.int (c : Int) = V.int (c : Int))) = false by simp]
          refine iteF ?_
          refine ⟨_, rfl, u, _, _, _, rfl, rfl, SqT.of eu, rfl, _, rfl, u, _, _, _, rfl, rfl, SqT.of eu, rfl, _, rfl, u', _, _, _, rfl, rfl, SqT.of eu', rfl, _, rfl, u', _, _, _, rfl, rfl, SqT.of eu', rfl, a, b, x', y', rfl, ?_⟩
          rw [show latA (some (c, a, b)) (some (c, x', y')) = agr a b x' y' from if_pos rfl] at k
          exact k
        · rw [show (!decide (V.int (c : Int) = V.int (d : Int))) = true by simp; omega]
          rw [show latA (some (c, a, b)) (some (d, x', y')) = true from if_neg h] at k
          exact iteT k
end
abbrev srows_clash : Stmt := top 9
theorem scrows_clash : FnScope ["row", "other"] ["row", "other"] (defScope srows_clash) := ⟨rfl, rfl, rfl, by decide +kernel, rfl, by decide +kernel, by decide +kernel⟩
section
variable {P : Program} {w : World} {K : PySem.W.Frag} {mg : Str → Option Value} {base : Heap}
theorem okrows_clash {f : Addr} {fd : FuncData} (F : Fun K "rows_clash" "rows_clash" srows_clash f fd) (T : Blt mg) (Gchoices_agree : Cal P w K mg base 1 "choices_agree" ["mask", "want", "other_mask", "other_want"] spAgr) (Glatches_agree : Cal P w K mg base 2 "latches_agree" ["latch", "other"] spLatA) : FnOk P w K mg base CX0 3 f fd ["row", "other"] spClash := by
  refine F.ok scrows_clash (fun vs H Q E h => ?_) (fun cdv A outer s H vs Q E hr h => ?_)
  · obtain ⟨t, u, r, q, rfl, _⟩ := h; rfl
  · obtain ⟨t, u, r, q, rfl, ⟨lt, et, hl⟩, ⟨lu, eu, hk⟩, k⟩ := h
    refine ⟨_, (pss_one (ps_ret (pe_and (pe_cal Gchoices_agree (hr.mono (by first | decide | omega)) rfl (pa_cons (pe_ix ix_tup (pv 0) pe_int (fun _ _ => rfl)) (pa_cons (pe_ix ix_tup (pv 0) pe_int (fun _ _ => rfl)) (pa_cons (pe_ix ix_tup (pv 1) pe_int (fun _ _ => rfl)) (pa_cons (pe_ix ix_tup (pv 1) pe_int (fun _ _ => rfl)) pa_nil))))) (pe_one (pe_cal Glatches_agree (hr.mono (by first | decide | omega)) rfl (pa_cons (pe_ix ix_tup (pv 0) pe_int (fun _ _ => rfl)) (pa_cons (pe_ix ix_tup (pv 1) pe_int (fun _ _ => rfl)) pa_nil))))))), ?rd⟩
    refine ⟨_, rfl, t, _, _, _, rfl, rfl, SqT.of et, rfl, _, rfl, t, _, _, _, rfl, rfl, SqT.of et, rfl, _, rfl, u, _, _, _, rfl, rfl, SqT.of eu, rfl, _, rfl, u, _, _, _, rfl, rfl, SqT.of eu, rfl, r.m, r.w, q.m, q.w, rfl, _, rfl, ?_⟩
    unfold clash at k
    cases h : agr r.m r.w q.m q.w with
    | false =>
      rw [h] at k
      exact iteF k
    | true =>
      rw [h] at k
      exact iteT ⟨_, rfl, t, _, _, _, rfl, rfl, SqT.of et, rfl, _, rfl, u, _, _, _, rfl, rfl, SqT.of eu, rfl, lt, lu, r.l, q.l, rfl, hl, hk, k⟩
end
abbrev sleast_words : Stmt := top 10
theorem scleast_words : FnScope ["row", "other", "least", "latch", "chip"] ["row", "other"] (defScope sleast_words) := ⟨rfl, rfl, rfl, by decide +kernel, rfl, by decide +kernel, by decide +kernel⟩
section
variable {P : Program} {w : World} {K : PySem.W.Frag} {mg : Str → Option Value} {base : Heap}
theorem okleast_words {f : Addr} {fd : FuncData} (F : Fun K "least_words" "least_words" sleast_words f fd) (T : Blt mg) (GBsorted : mg "sorted" = none) : FnOk P w K mg base CX0 1 f fd ["row", "other"] spLeast := by
  refine F.ok scleast_words (fun vs H Q E h => ?_) (fun cdv A outer s H vs Q E hr h => ?_)
  · obtain ⟨t, u, r, q, rfl, _⟩ := h; rfl
  · obtain ⟨t, u, r, q, rfl, ⟨lt, et, hl⟩, ⟨lu, eu, hk⟩, k⟩ := h
    refine ⟨_, (pss_cons (ps_set (i := 2) scleast_words.nd rfl (Or.inl rfl) pe_dnewK)
      (pss_cons (ps_for PassesOwn.never rfl (pi_tup (pe_tup (pa_cons (pe_ix ix_tup (pv 0) pe_int (fun _ _ => rfl)) (pa_cons (pe_ix ix_tup (pv 1) pe_int (fun _ _ => rfl)) pa_nil)))) (pg_name (i := 3) scleast_words.nd rfl (Or.inl rfl))
      (pss_one (ps_if (pt_cmp (pc_notN (pv 3))) (pss_cons (ps_set (i := 4) scleast_words.nd rfl (Or.inl rfl) (pe_ix ix_tup (pv 3) pe_int (fun _ _ => rfl)))
      (pss_one (ps_dput (hu_of hr) (pv 2) (pv 4) (pe_op op_or (pe_dget2 (hu_of hr) (pv 2) (pv 4) pe_int ⟨rfl, rfl, rfl, rfl⟩) (pe_ix ix_tup (pv 3) pe_int (fun _ _ => rfl))) rfl))) pss_nil)))
      (pss_one (ps_ret (pe_callTy call_tuple_of (by rfl) T.tuple bt_tuple (pa_cons (pe_callB (call_sortedI rfl) (by rfl) GBsorted bt_sorted (pa_cons (pe_bm0 PySem.F.plainAttrs_dict PySem.F.slot_dict_items PySem.F.type_dict_items mt_items (pv 2)) pa_nil)) pa_nil)))))), ?rd⟩
    refine fun d hd => ⟨_, rfl, t, _, _, _, rfl, rfl, SqT.of (same_new hd _ _ et), rfl, _, rfl, u, _, _, _, rfl, rfl, SqT.of (same_new hd _ _ eu), rfl, by show 2 ≤ sizeLine; decide, fun tp htp => ⟨tp, rfl, ⟨_, SqT.of upd_same⟩, ?_⟩⟩
    have s1 : Same H (upd H d (.dK [])) := same_new hd
    have s2 := s1.trans (same_new (o := .tup [lt, lu]) htp)
    have ndt : d ≠ tp := fun z => by rw [← z, upd_same] at htp; cases htp
    refine for_tup (K := K) (a := tp) (xs := [lt, lu]) (fun i σ X => ∃ (v3 v4 : Option V), σ = [some (.ref t), some (.ref u), some (.ref d), v3, v4] ∧ X d = some (.dK (knV (knN (if i = 0 then [] else if i = 1 then dOne r.l else dPut (dOne r.l) q.l)))) ∧ X tp = some (.tup [lt, lu]) ∧ Same H X)
      ⟨none, none, rfl, by rw [upd_ne ndt]; exact upd_same, upd_same, s2⟩ (fun i σ X hi ⟨_, _, _, _, e, _⟩ => SqT.of e) ?_ ?_
    · rintro i x σ X hx ⟨v3, v4, rfl, ed, etp, sX⟩
      -- the latch of this turn
      obtain ⟨l, o, hlen, hlx, hnow, hnext⟩ : ∃ (l : List (Nat × Nat)) (o : Option (Nat × Nat × Nat)), l.length ≤ 1 ∧ LatV H x o ∧ (if i = 0 then [] else if i = 1 then dOne r.l else dPut (dOne r.l) q.l) = l ∧ (if i + 1 = 0 then [] else if i + 1 = 1 then dOne r.l else dPut (dOne r.l) q.l) = dPut l o := by
        rcases (show i = 0 ∨ i = 1 by have := (List.getElem?_eq_some_iff.mp hx).1; simp at this; omega) with rfl | rfl
        · cases hx
          refine ⟨[], r.l, by simp, hl, rfl, ?_⟩
          show dOne r.l = dPut [] r.l
          cases r.l with
          | none => rfl
          | some z => rfl
        · cases hx
          refine ⟨dOne r.l, q.l, ?_, hk, rfl, rfl⟩
          cases r.l with
          | none => simp [dOne]
          | some z => simp [dOne]
      rw [hnow] at ed
      rw [hnext]
      match o, hlx with
      | none, hlx =>
        obtain rfl : x = .non := hlx
        exact ⟨_, rfl, _, rfl, iteF ⟨_, _, rfl, ed, etp, sX⟩⟩
      | some (c, a, b), hlx =>
        obtain ⟨lp, rfl, elp⟩ := hlx
        have elX := sX _ _ elp
        obtain ⟨n, hv, hput⟩ := put_is hlen c a b
        refine ⟨_, rfl, _, rfl, iteT ?_⟩
        refine ⟨_, rfl, lp, _, _, _, rfl, rfl, SqT.of elX, rfl, ?_⟩
        refine ⟨_, rfl, d, rfl, .inl ⟨_, .inl ed⟩, _, rfl, _, DGet.k (k := Sum.inl (c : Int)) ed, ?_⟩
        rw [hv]
        refine ⟨_, rfl, lp, _, _, _, rfl, rfl, SqT.of elX, rfl, _, _, rfl, rfl, _, rfl, _, rfl, d, _, rfl, DPut.k (k := Sum.inl (c : Int)) ed ?_, ?_⟩
        · unfold knV knN
          rw [List.length_map, List.length_map]
          exact Nat.lt_of_le_of_lt hlen (by decide)
        · refine ⟨_, _, rfl, ?_, by rw [upd_ne (Ne.symm ndt)]; exact etp, fun z o e => ?_⟩
          · rw [upd_same, show ((fun (i j : Int) => V.int (Builtin.bitOr i j)) (n : Int) (b : Int)) = V.int ((n ||| b : Nat) : Int) from congrArg V.int (bor n b), hput]
          · rw [upd_ne (ne_of_none e hd)]; exact sX _ _ e
    · rintro σ X ⟨v3, v4, rfl, ed, etp, sX⟩
      have ed : X d = some (.dK (knV (knN (dPut (dOne r.l) q.l)))) := ed
      refine ⟨_, rfl, .inr (.inr (.inl ⟨rfl, .inl ⟨_, ed⟩⟩)), d, _, rfl, rfl, ed, fun vp hvp => ?_⟩
      refine ⟨vp, d, _, rfl, upd_same, same_new hvp _ _ ed, dPut_len _ _, dPut_nodup _ _, fun l ts X2 hts hl2 s2 el hpr => ?_⟩
      refine ⟨l, _, rfl, .inl ⟨SqL.of el, fun p hp => ?_⟩⟩
      have sF := sX.trans ((same_new hvp).trans s2)
      refine k p _ (same_none sF hp) ⟨ts, upd_same, ?_, fun j t' q' e1 e2 => ?_⟩ (sF.trans (same_new hp))
      · rw [hts, ← lw_is]
        have : ∀ l : List (Int × Int), (srt2 l).length = l.length := fun l => by
          match l with
          | [] => rfl
          | [_] => rfl
          | [x, y] =>
            show (if y.1 < x.1 then [y, x] else [x, y]).length = 2
            split <;> rfl
          | _ :: _ :: _ :: _ => rfl
        exact (this _).symm
      · rw [← lw_is] at e2
        exact same_new hp _ _ (hpr j t' q' e1 e2).2
end
abbrev sclash_of : Stmt := top 11
theorem scclash_of : FnScope ["rows", "found", "second", "other", "first", "row", "address"] ["rows"] (defScope sclash_of) := ⟨rfl, rfl, rfl, by decide +kernel, rfl, by decide +kernel, by decide +kernel⟩
section
variable {P : Program} {w : World} {K : PySem.W.Frag} {mg : Str → Option Value} {base : Heap}
theorem okclash_of {f : Addr} {fd : FuncData} (F : Fun K "clash_of" "clash_of" sclash_of f fd) (T : Blt mg) (Grows_clash : Cal P w K mg base 3 "rows_clash" ["row", "other"] spClash) (Gleast_words : Cal P w K mg base 1 "least_words" ["row", "other"] spLeast) : FnOk P w K mg base CX0 4 f fd ["rows"] spClashOf := by
  refine F.ok scclash_of (fun vs H Q E h => ?_) (fun cdv A outer s H vs Q E hr h => ?_)
  · obtain ⟨p, as, rs, rfl, _⟩ := h; rfl
  · obtain ⟨p, as, rs, rfl, hp, hla, hrs, hrw, k1, k2⟩ := h
    refine ⟨_, (pss_cons (ps_set (i := 1) scclash_of.nd rfl (Or.inl rfl) (pe_lst pa_nil))
      (pss_cons (ps_for PassesOwn.never rfl (pi_enumT rfl T.enumerate (pa_cons (pv 0) pa_nil)) (pg_tup rfl (pgs_cons (pg_name (i := 2) scclash_of.nd rfl (Or.inl rfl)) (pgs_cons (pg_name (i := 3) scclash_of.nd rfl (Or.inl rfl)) pgs_nil)))
      (pss_one (ps_for PassesOwn.never rfl (pi_enumT rfl T.enumerate (pa_cons (pe_slice (sl_tup2 (K := K) rfl) (pv 0) po_none (po_some (pv 2))) pa_nil)) (pg_tup rfl (pgs_cons (pg_name (i := 4) scclash_of.nd rfl (Or.inl rfl)) (pgs_cons (pg_name (i := 5) scclash_of.nd rfl (Or.inl rfl)) pgs_nil)))
      (pss_one (ps_if (pt_val (pe_cal Grows_clash (hr.mono (by first | decide | omega)) rfl (pa_cons (pv 5) (pa_cons (pv 3) pa_nil)))) (pss_one (ps_expr (pe_bm PySem.F.plainAttrs_list PySem.F.slot_list_append PySem.F.type_list_append mt_append (pv 1) (pa_cons (pe_tup (pa_cons (pe_op op_or (pe_ix ix_tup (pv 5) pe_int (fun _ _ => rfl)) (pe_ix ix_tup (pv 3) pe_int (fun _ _ => rfl))) (pa_cons (pv 4) (pa_cons (pv 2) pa_nil)))) pa_nil)))) pss_nil)))))
      (pss_cons (ps_if (pt_not (pt_truth (pv 1) (fun _ => rfl))) (pss_one (ps_ret pe_non)) pss_nil)
      (pss_cons (ps_asg (pe_callB (call_minT rfl (hu_of hr)) (by rfl) T.min PyProof.Rows.boot_min (pa_cons (pv 1) pa_nil)) (pg_tup rfl (pgs_cons (pg_name (i := 6) scclash_of.nd rfl (Or.inl rfl)) (pgs_cons (pg_name (i := 4) scclash_of.nd rfl (Or.inl rfl)) (pgs_cons (pg_name (i := 2) scclash_of.nd rfl (Or.inl rfl)) pgs_nil)))))
      (pss_one (ps_ret (pe_tup (pa_cons (pv 6) (pa_cons (pv 4) (pa_cons (pv 2) (pa_cons (pe_cal Gleast_words (hr.mono (by first | decide | omega)) rfl (pa_cons (pe_ix ix_tup (pv 0) (pv 4) (fun _ _ => rfl)) (pa_cons (pe_ix ix_tup (pv 0) (pv 2) (fun _ _ => rfl)) pa_nil))) pa_nil))))))))))), ?rd⟩
    refine ⟨by show 0 ≤ sizeLine; decide, fun fa hfa => ?_⟩
    refine ⟨_, rfl, p, rfl, ⟨_, SqT.of (same_new hfa _ _ hp)⟩, ?_⟩
    have nfa : ∀ (X : Hp) (ts : List Addr) (t : Addr) (o : List V), X fa = some (.lst (ts.map V.ref)) → X t = some (.tup o) → t ≠ fa := fun X ts t o e1 e2 z => by rw [z, e1] at e2; cases e2
    refine for_enumT (K := K) (a := p) (xs := as.map V.ref) (fun j σ X => ∃ (v2 v3 v4 v5 : Option V) (ts : List Addr), σ = [some (.ref p), some (.ref fa), v2, v3, v4, v5, none] ∧ X fa = some (.lst (ts.map V.ref)) ∧ FndAt X ts (fndL rs j) ∧ Same H X)
      ⟨none, none, none, none, [], rfl, upd_same, ⟨rfl, fun i t ns e1 => by simp at e1⟩, same_new hfa⟩ (fun i σ X hi ⟨_, _, _, _, _, _, _, _, s⟩ => SqT.of (s _ _ hp)) ?_ ?_
    · rintro j x T0 σ X hx hT0 ⟨v2, v3, v4, v5, ts, rfl, efa, hF, sX⟩
      rw [List.getElem?_map] at hx
      obtain ⟨b, hb, rfl⟩ := Option.map_eq_some_iff.mp hx
      have hj : j < as.length := (List.getElem?_eq_some_iff.mp hb).1
      obtain ⟨q, hq⟩ : ∃ q, rs[j]? = some q := ⟨_, List.getElem?_eq_getElem (by omega)⟩
      refine g_pair ?_
      have sT : Same H (upd X T0 (.tup [.int (j : Int), .ref b])) := sX.trans (same_new hT0)
      refine ⟨_, rfl, _, rfl, _, rfl, p, _, rfl, SqT.of (sT _ _ hp), fun z => ?_, fun u hu => ?_⟩
      · exfalso
        rw [cut_take (by rw [List.length_map]; omega)] at z
        have := congrArg List.length z
        rw [List.length_take, List.length_map] at this
        omega
      have ecut : cutV (as.map V.ref) none (some (j : Int)) = (as.take j).map V.ref := by rw [cut_take (by rw [List.length_map]; omega), ← List.map_take]
      refine ⟨u, rfl, ⟨_, SqT.of upd_same⟩, ?_⟩
      rw [ecut] at *
      have sU : Same X (upd (upd X T0 (.tup [.int (j : Int), .ref b])) u (.tup ((as.take j).map V.ref))) := (same_new hT0).trans (same_new hu)
      refine for_enumT (K := K) (a := u) (xs := (as.take j).map V.ref) (fun i σ Y => ∃ (v4 v5 : Option V) (ts : List Addr), σ = [some (.ref p), some (.ref fa), some (.int (j : Int)), some (.ref b), v4, v5, none] ∧ Y fa = some (.lst (ts.map V.ref)) ∧ FndAt Y ts (fndL rs j ++ fndR rs j i) ∧ Y u = some (.tup ((as.take j).map V.ref)) ∧ Same H Y)
        ⟨v4, v5, ts, rfl, sU _ _ efa, by rw [show fndR rs j 0 = [] from rfl, List.append_nil]; exact hF.same sU, upd_same, sX.trans sU⟩ (fun i σ Y hi ⟨_, _, _, _, _, _, e, _⟩ => SqT.of e) ?_ ?_
      · rintro i y T1 σ Y hy hT1 ⟨v4, v5, ts, rfl, efa, hF, eu, sY⟩
        rw [List.getElem?_map] at hy
        obtain ⟨a, ha, rfl⟩ := Option.map_eq_some_iff.mp hy
        have hij : i < j := by have := (List.getElem?_eq_some_iff.mp ha).1; rw [List.length_take] at this; omega
        have ha' : as[i]? = some a := by rw [List.getElem?_take] at ha; simpa [hij] using ha
        obtain ⟨r, hr'⟩ : ∃ r, rs[i]? = some r := ⟨_, List.getElem?_eq_getElem (by omega)⟩
        refine g_pair ?_
        have s1 : Same Y (upd Y T1 (.tup [.int (i : Int), .ref a])) := same_new hT1
        have s2 := sY.trans s1
        have rwa := hrw i a r ha' hr'
        have rwb := hrw j b q hb hq
        have e1 : fnd1 rs i j = if clash r q = true then [[((r.w ||| q.w : Nat) : Int), (i : Int), (j : Int)]] else [] := by unfold fnd1; rw [hr', hq]
        refine ⟨_, rfl, _, rfl, a, b, r, q, rfl, rwa.same s2, rwb.same s2, _, rfl, ite2 (fun hc => ?_) (fun hc => ?_)⟩
        · obtain ⟨la, ea, hla2⟩ := rwa.same s2
          obtain ⟨lb, eb, hlb⟩ := rwb.same s2
          have efa1 := s1 _ _ efa
          refine ⟨_, rfl, .inl ⟨rfl, _, SqL.of efa1⟩, _, rfl, a, _, _, _, rfl, rfl, SqT.of ea, rfl, _, rfl, b, _, _, _, rfl, rfl, SqT.of eb, rfl, _, _, rfl, rfl, _, rfl, _, rfl, by show 3 ≤ sizeLine; decide, fun T2 hT2 => ?_⟩
          have s3 := same_new (o := .tup [.int (Builtin.bitOr (r.w : Int) (q.w : Int)), .int (i : Int), .int (j : Int)]) hT2
          have efa2 := s3 _ _ efa1
          have nT2 : T2 ≠ fa := fun z => by rw [z, efa1] at hT2; cases hT2
          refine ⟨fa, _, _, rfl, rfl, efa2, ?_, ?_⟩
          · rw [List.length_map, hF.1, List.length_append]
            have a1 := fndL_len rs j
            have a2 := fndR_len rs j i
            have a3 : j * j ≤ 100 * 100 := Nat.mul_le_mul (by omega) (by omega)
            exact Nat.lt_of_le_of_lt (show _ ≤ 10100 by omega) (by decide)
          · have hF2 : FndAt (upd (upd (upd Y T1 (.tup [.int (i : Int), .ref a])) T2 (.tup [.int (Builtin.bitOr (r.w : Int) (q.w : Int)), .int (i : Int), .int (j : Int)])) fa (.lst (ts.map V.ref ++ [.ref T2]))) ts (fndL rs j ++ fndR rs j i) := ⟨hF.1, fun z t ns e2 e3 => by
              have h9 := hF.2 z t ns e2 e3
              rw [upd_ne (nfa Y ts t _ efa h9)]
              exact s3 _ _ (s1 _ _ h9)⟩
            refine ⟨_, _, ts ++ [T2], rfl, by rw [upd_same, List.map_append]; rfl, ?_, ?_, fun z o e => ?_⟩
            · rw [fndR_succ, ← List.append_assoc, e1, if_pos hc]
              refine hF2.snoc (X := H) ?_
              rw [upd_ne nT2, upd_same]
              show some (HO.tup [V.int (Builtin.bitOr (r.w : Int) (q.w : Int)), V.int (i : Int), V.int (j : Int)]) = some (HO.tup [V.int ((r.w ||| q.w : Nat) : Int), V.int (i : Int), V.int (j : Int)])
              rw [bor]
            · rw [upd_ne (nfa Y ts u _ efa eu)]
              exact s3 _ _ (s1 _ _ eu)
            · rw [upd_ne (ne_of_none e hfa)]
              exact s3 _ _ (s2 _ _ e)
        · refine ⟨_, _, ts, rfl, s1 _ _ efa, ?_, s1 _ _ eu, s2⟩
          rw [fndR_succ, ← List.append_assoc, e1, if_neg hc, List.append_nil]
          exact hF.same s1
      · rintro σ Y ⟨v4, v5, ts, rfl, efa, hF, eu, sY⟩
        rw [List.length_map, List.length_take, Nat.min_eq_left (by omega)] at hF
        exact ⟨_, _, _, _, ts, rfl, efa, by rw [fndL_succ]; exact hF, sY⟩
    · rintro σ X ⟨v2, v3, v4, v5, ts, rfl, efa, hF, sX⟩
      rw [List.length_map, hla] at hF
      have hfl := hF.1
      by_cases h0 : fndL rs rs.length = []
      · have et : ts = [] := List.eq_nil_of_length_eq_zero (by rw [hfl, h0]; rfl)
        subst et
        refine ⟨_, rfl, _, .inl ⟨_, SqL.of efa, rfl⟩, ?_⟩
        exact iteT (k1 h0 X sX)
      · have hpos : 0 < (fndL rs rs.length).length := List.length_pos_iff.mpr h0
        refine ⟨_, rfl, _, .inl ⟨_, SqL.of efa, rfl⟩, ?_⟩
        have hne : (!(ts.map V.ref).isEmpty) = true := by
          cases ts with
          | nil => rw [← hfl] at hpos; simp at hpos
          | cons _ _ => rfl
        rw [hne]
        refine iteF ?_
        refine ⟨_, rfl, fa, ts, fndL rs rs.length, rfl, efa, by omega, hfl, hF.2, fun t ht => ?_⟩
        rw [hfl] at ht
        obtain ⟨ns, hns⟩ : ∃ ns, (fndL rs rs.length)[PySem.argBest (fun i j => HT.lexLt ((fndL rs rs.length).getD i []) ((fndL rs rs.length).getD j [])) ((fndL rs rs.length).length - 1)]? = some ns := ⟨_, List.getElem?_eq_getElem (by have := (List.getElem?_eq_some_iff.mp ht).1; omega)⟩
        have et := hF.2 _ t ns ht hns
        obtain ⟨i, j, r, q, x, hr', hq', rfl⟩ := fndL_mem (List.mem_of_getElem? hns)
        have et : X t = some (.tup [.int (x : Int), .int (i : Int), .int (j : Int)]) := et
        have hi : i < rs.length := (List.getElem?_eq_some_iff.mp hr').1
        have hj : j < rs.length := (List.getElem?_eq_some_iff.mp hq').1
        obtain ⟨a, ha⟩ : ∃ a, as[i]? = some a := ⟨_, List.getElem?_eq_getElem (by omega)⟩
        obtain ⟨b, hb⟩ : ∃ b, as[j]? = some b := ⟨_, List.getElem?_eq_getElem (by omega)⟩
        refine ⟨t, [.int (x : Int), .int (i : Int), .int (j : Int)], rfl, SqT.of et, rfl, _, _, rfl, _, _, rfl, _, _, rfl, rfl, ?_⟩
        have hpX := sX _ _ hp
        refine ⟨_, rfl, _, rfl, _, rfl, _, rfl, _, rfl, p, _, _, V.ref a, rfl, rfl, SqT.of hpX, atI_nat (by rw [List.getElem?_map, ha]; rfl), _, rfl, _, rfl, p, _, _, V.ref b, rfl, rfl, SqT.of hpX, atI_nat (by rw [List.getElem?_map, hb]; rfl), a, b, r, q, rfl, (hrw i a r ha hr').same sX, (hrw j b q hb hq').same sX, fun wp Y hwp hpr sY => ?_⟩
        refine ⟨by show 4 ≤ sizeLine; decide, fun tp htp => ?_⟩
        have sF := sX.trans sY
        refine k2 x i j r q hns hr' hq' tp wp _ (same_none sF htp) upd_same ?_ (sF.trans (same_new htp))
        obtain ⟨ts', e1, e2, e3⟩ := hpr
        exact ⟨ts', same_new htp _ _ e1, e2, fun z t' q' h1 h2 => same_new htp _ _ (e3 z t' q' h1 h2)⟩
end
abbrev smeets : Stmt := top 5
theorem scmeets : FnScope ["row", "address"] ["row", "address"] (defScope smeets) := ⟨rfl, rfl, rfl, by decide +kernel, rfl, by decide +kernel, by decide +kernel⟩
section
variable {P : Program} {w : World} {K : PySem.W.Frag} {mg : Str → Option Value} {base : Heap}
theorem okmeets {f : Addr} {fd : FuncData} (F : Fun K "meets" "meets" smeets f fd) (T : Blt mg) : FnOk P w K mg base CX0 1 f fd ["row", "address"] spMeet := by
  refine F.ok scmeets (fun vs H Q E h => ?_) (fun cdv A outer s H vs Q E hr h => ?_)
  · obtain ⟨t, r, x, rfl, _⟩ := h; rfl
  · obtain ⟨t, r, x, rfl, ⟨lt, et, hlt⟩, k⟩ := h
    refine ⟨_, (pss_one (ps_ret (pe_cmpR op_eq (pe_op op_and (pv 1) (pe_ix ix_tup (pv 0) pe_int (fun _ _ => rfl))) (pe_ix ix_tup (pv 0) pe_int (fun _ _ => rfl)) (nomark _)))), ?rd⟩
    refine ⟨_, rfl, _, rfl, t, _, _, _, rfl, rfl, SqT.of et, rfl, _, _, rfl, rfl, _, rfl, t, _, _, _, rfl, rfl, SqT.of et, rfl, rfl, ?_⟩
    have e : decide (V.int (Builtin.bitAnd (x : Int) (r.m : Int)) = V.int (r.w : Int)) = met r x := by
      rw [band]
      unfold met
      by_cases h : x &&& r.m = r.w
      · rw [decide_eq_true h, h]; exact decide_eq_true rfl
      · rw [decide_eq_false h]; exact decide_eq_false fun z => h (by injection z with z; exact Int.ofNat.inj z)
    rw [← e] at k
    exact k
end
abbrev sis_awake : Stmt := top 12
theorem scis_awake : FnScope ["row", "words", "latch", "chip", "mask", "want"] ["row", "words"] (defScope sis_awake) := ⟨rfl, rfl, rfl, by decide +kernel, rfl, by decide +kernel, by decide +kernel⟩
section
variable {P : Program} {w : World} {K : PySem.W.Frag} {mg : Str → Option Value} {base : Heap}
theorem okis_awake {f : Addr} {fd : FuncData} (F : Fun K "is_awake" "is_awake" sis_awake f fd) (T : Blt mg) : FnOk P w K mg base CX0 1 f fd ["row", "words"] spAwake := by
  refine F.ok scis_awake (fun vs H Q E h => ?_) (fun cdv A outer s H vs Q E hr h => ?_)
  · obtain ⟨t, d, r, keys, g, rfl, _⟩ := h; rfl
  · obtain ⟨t, d, r, keys, g, rfl, ⟨lt, et, hlt⟩, ed, k⟩ := h
    refine ⟨_, (pss_cons (ps_set (i := 2) scis_awake.nd rfl (Or.inl rfl) (pe_ix ix_tup (pv 0) pe_int (fun _ _ => rfl)))
      (pss_cons (ps_if (pt_cmp (pc_isN (pv 2))) (pss_one (ps_ret pe_bl)) pss_nil)
      (pss_cons (ps_asg (pv 2) (pg_tup rfl (pgs_cons (pg_name (i := 3) scis_awake.nd rfl (Or.inl rfl)) (pgs_cons (pg_name (i := 4) scis_awake.nd rfl (Or.inl rfl)) (pgs_cons (pg_name (i := 5) scis_awake.nd rfl (Or.inl rfl)) pgs_nil)))))
      (pss_one (ps_ret (pe_cmpR op_eq (pe_op op_and (pe_dget2 (hu_of hr) (pv 1) (pv 3) pe_int ⟨rfl, rfl, rfl, rfl⟩) (pv 4)) (pv 5) (nomark _))))))), ?rd⟩
    refine ⟨_, rfl, t, _, _, _, rfl, rfl, SqT.of et, rfl, ?_⟩
    cases hl : r.l with
    | none =>
      rw [hl] at hlt
      obtain rfl : lt = .non := hlt
      refine ⟨_, rfl, _, rfl, iteT ?_⟩
      rw [show awk r (wrd keys g) = true by unfold awk; rw [hl]] at k
      exact k
    | some o =>
      obtain ⟨c, a, b⟩ := o
      rw [hl] at hlt
      obtain ⟨lp, rfl, elp⟩ := hlt
      refine ⟨_, rfl, _, rfl, iteF ?_⟩
      refine ⟨_, rfl, lp, _, rfl, SqT.of elp, rfl, _, _, rfl, _, _, rfl, _, _, rfl, rfl, ?_⟩
      refine ⟨_, rfl, d, rfl, .inl ⟨_, .inl ed⟩, _, rfl, _, DGet.k (k := Sum.inl (c : Int)) ed, ?_⟩
      rw [dV_get]
      refine ⟨_, rfl, _, _, rfl, rfl, _, rfl, rfl, ?_⟩
      rw [← awk_eq hl] at k
      exact k
end
abbrev sanswering : Stmt := top 13
theorem scanswering : FnScope ["rows", "address", "words", "number", "row"] ["rows", "address", "words"] (defScope sanswering) := ⟨rfl, rfl, rfl, by decide +kernel, rfl, by decide +kernel, by decide +kernel⟩
section
variable {P : Program} {w : World} {K : PySem.W.Frag} {mg : Str → Option Value} {base : Heap}
theorem okanswering {f : Addr} {fd : FuncData} (F : Fun K "answering" "answering" sanswering f fd) (T : Blt mg) (Gmeets : Cal P w K mg base 1 "meets" ["row", "address"] spMeet) (Gis_awake : Cal P w K mg base 1 "is_awake" ["row", "words"] spAwake) : FnOk P w K mg base CX0 2 f fd ["rows", "address", "words"] spAnsw := by
  refine F.ok scanswering (fun vs H Q E h => ?_) (fun cdv A outer s H vs Q E hr h => ?_)
  · obtain ⟨p, d, x, ws, keys, g, rfl, _⟩ := h; rfl
  · obtain ⟨p, d, x, ws, keys, g, rfl, hp, hws, ed, k⟩ := h
    refine ⟨_, (pss_cons (ps_for PassesOwn.never rfl (pi_enumT rfl T.enumerate (pa_cons (pv 0) pa_nil)) (pg_tup rfl (pgs_cons (pg_name (i := 3) scanswering.nd rfl (Or.inl rfl)) (pgs_cons (pg_name (i := 4) scanswering.nd rfl (Or.inl rfl)) pgs_nil)))
      (pss_one (ps_if (PW.pt (pw_and (pt_val (pe_cal Gmeets (hr.mono (by first | decide | omega)) rfl (pa_cons (pv 4) (pa_cons (pv 1) pa_nil)))) (pw_and1 (pt_val (pe_cal Gis_awake (hr.mono (by first | decide | omega)) rfl (pa_cons (pv 4) (pa_cons (pv 2) pa_nil))))))) (pss_one (ps_ret (pv 3))) pss_nil)))
      (pss_one (ps_ret pe_non))), ?rd⟩
    refine ⟨_, rfl, p, rfl, ⟨_, SqT.of hp⟩, ?_⟩
    refine for_enumT (K := K) (a := p) (xs := refs ws) (fun i σ X => ∃ (v3 v4 : Option V), σ = [some (.ref p), some (.int (x : Int)), some (.ref d), v3, v4] ∧ (∀ (j : Nat) (q : Rw), j < i → (ws.map (·.2))[j]? = some q → ans q x (wrd keys g) = false) ∧ Same H X) ⟨_, _, rfl, (fun j q hj => absurd hj (Nat.not_lt_zero _)), Same.refl _⟩ (fun i σ X hi ⟨_, _, _, _, s⟩ => SqT.of (s _ _ hp)) ?_ ?_
    · rintro i y U σ X hy hU ⟨v3, v4, rfl, hb, sX⟩
      obtain ⟨z, hz, rfl⟩ := refs_get hy
      have sU := sX.trans (same_new (o := .tup [.int (i : Int), .ref z.1]) hU)
      have rwz := (hws z (List.mem_of_getElem? hz)).same sU
      have hzi : (ws.map (·.2))[i]? = some z.2 := by rw [List.getElem?_map, hz]; rfl
      have next : ans z.2 x (wrd keys g) = false → ∃ (v3 v4 : Option V), [some (.ref p), some (.int (x : Int)), some (.ref d), some (.int (i : Int)), some (.ref z.1)] = [some (.ref p), some (.int (x : Int)), some (.ref d), v3, v4] ∧ (∀ (j : Nat) (q : Rw), j < i + 1 → (ws.map (·.2))[j]? = some q → ans q x (wrd keys g) = false) ∧ Same H (upd X U (.tup [.int (i : Int), .ref z.1])) := fun hn => ⟨_, _, rfl, fun j q hj hq => by
        rcases (show j < i ∨ j = i by omega) with e | e
        · exact hb j q e hq
        · rw [e, hzi] at hq; cases hq; exact hn, sU⟩
      refine g_pair ?_
      refine ⟨_, rfl, _, rfl, z.1, z.2, x, rfl, rwz, _, rfl, ite2 (fun h1 => ?_) (fun h1 => ?_)⟩
      · refine ⟨_, rfl, _, rfl, z.1, d, z.2, keys, g, rfl, rwz, sU _ _ ed, _, rfl, ite2 (fun h2 => ?_) (fun h2 => ?_)⟩
        · refine ⟨_, rfl, ?_⟩
          have := k _ sU
          rw [fstA_some hzi (by unfold ans; rw [h1, h2]; rfl) hb] at this
          exact this
        · exact next (by unfold ans; rw [Bool.eq_false_iff.mpr h2, Bool.and_false])
      · exact iteF (next (by unfold ans; rw [Bool.eq_false_iff.mpr h1, Bool.false_and]))
    · rintro σ X ⟨v3, v4, rfl, hb, sX⟩
      have := k X sX
      rw [refs_length] at hb
      rw [fstA_none (fun r hr' => by
        obtain ⟨j, hj⟩ := List.mem_iff_getElem?.mp hr'
        exact hb j r (by have := (List.getElem?_eq_some_iff.mp hj).1; rw [List.length_map] at this; exact this) hj)] at this
      exact this
end
abbrev sholes_among : Stmt := top 14
theorem scholes_among : FnScope ["rows", "start", "size", "met", "row", "mask", "want"] ["rows", "start", "size"] (defScope sholes_among) := ⟨rfl, rfl, rfl, by decide +kernel, rfl, by decide +kernel, by decide +kernel⟩
section
variable {P : Program} {w : World} {K : PySem.W.Frag} {mg : Str → Option Value} {base : Heap}
theorem okholes_among {f : Addr} {fd : FuncData} (F : Fun K "holes_among" "holes_among" sholes_among f fd) (T : Blt mg) (Gones_of : Cal P w K mg base 2 "ones_of" ["mask"] spOnes) : FnOk P w K mg base CX0 3 f fd ["rows", "start", "size"] spHoles := by
  refine F.ok scholes_among (fun vs H Q E h => ?_) (fun cdv A outer s H vs Q E hr h => ?_)
  · obtain ⟨L, hh, e, m, ws, rfl, _⟩ := h; rfl
  · obtain ⟨L, hh, e, m, ws, rfl, he, hm, eL, hws, hdis, k⟩ := h
    refine ⟨_, (pss_cons (ps_set (i := 3) scholes_among.nd rfl (Or.inl rfl) pe_int)
      (pss_cons (ps_for PassesOwn.never rfl (pi_list (pv 0)) (pg_name (i := 4) scholes_among.nd rfl (Or.inl rfl))
      (pss_cons (ps_asg (pe_slice (sl_tup2 (K := K) rfl) (pv 4) po_none (po_some pe_int)) (pg_tup rfl (pgs_cons (pg_name (i := 5) scholes_among.nd rfl (Or.inl rfl)) (pgs_cons (pg_name (i := 6) scholes_among.nd rfl (Or.inl rfl)) pgs_nil))))
      (pss_one (ps_if (pt_cmpR op_lt (pe_op op_and (pe_op op_xor (pv 1) (pv 6)) (pv 5)) (pv 2) (nomark _)) (pss_one (ps_aug (i := 3) scholes_among.nd rfl (Or.inl rfl) (pe_op op_shr (pv 2) (pe_cal Gones_of (hr.mono (by first | decide | omega)) rfl (pa_cons (pe_op op_and (pv 5) (pe_op op_sub (pv 2) pe_int)) pa_nil))) iop_add)) pss_nil))))
      (pss_one (ps_ret (pe_op op_sub (pv 2) (pv 3)))))), ?rd⟩
    have hp : 0 < 2 ^ e := Nat.pow_pos (by decide)
    have hp16 : 2 ^ e ≤ 65536 := Nat.pow_le_pow_right (n := 2) (by decide) he
    refine ⟨_, rfl, L, rfl, ⟨_, SqL.of eL⟩, ?_⟩
    refine for_list (K := K) (a := L) (xs := refs ws) (fun i σ X => ∃ (v4 v5 v6 : Option V), σ = [some (.ref L), some (.int ((2 ^ e * hh : Nat) : Int)), some (.int ((2 ^ e : Nat) : Int)), some (.int ((((ws.map (·.2)).take i).map fun r => cnt r (2 ^ e * hh) (2 ^ e)).sum : Nat)), v4, v5, v6] ∧ Same H X) ⟨_, _, _, rfl, Same.refl _⟩ (fun i σ X hi ⟨_, _, _, _, s⟩ => SqL.of (s _ _ eL)) ?_ ?_
    · rintro i x σ X hx ⟨v4, v5, v6, rfl, sX⟩
      obtain ⟨z, hz, rfl⟩ := refs_get hx
      obtain ⟨rwz, okz⟩ := hws z (List.mem_of_getElem? hz)
      obtain ⟨lt, ez, hlt⟩ := rwz.same sX
      have hzi : (ws.map (·.2))[i]? = some z.2 := by rw [List.getElem?_map, hz]; rfl
      have tk : (((ws.map (·.2)).take (i + 1)).map fun r => cnt r (2 ^ e * hh) (2 ^ e)).sum = (((ws.map (·.2)).take i).map fun r => cnt r (2 ^ e * hh) (2 ^ e)).sum + cnt z.2 (2 ^ e * hh) (2 ^ e) := by
        rw [List.take_succ, hzi, List.map_append, List.sum_append]; simp
      have hblk := cnt_blk okz hh e
      have htest := blk_test okz hh e
      -- mask, want = row[:2]
      refine ⟨_, rfl, _, rfl, z.1, _, rfl, SqT.of ez, fun y => absurd (show (2 : Nat) = 5 from congrArg List.length y) (by decide), fun u hu => ⟨u, _, rfl, SqT.of upd_same, rfl, _, _, rfl, _, _, rfl, rfl, ?_⟩⟩
      have sU := sX.trans (same_new (o := .tup [V.int (z.2.m : Int), V.int (z.2.w : Int)]) hu)
      refine ⟨_, rfl, _, rfl, _, _, rfl, rfl, _, rfl, _, _, rfl, rfl, _, rfl, _, _, rfl, rfl, _, rfl, ?_⟩
      have ev : Builtin.bitAnd (Builtin.bitXor ((2 ^ e * hh : Nat) : Int) (z.2.w : Int)) (z.2.m : Int) = (((2 ^ e * hh ^^^ z.2.w) &&& z.2.m : Nat) : Int) := by rw [bxor, band]
      have et : decide (Builtin.bitAnd (Builtin.bitXor ((2 ^ e * hh : Nat) : Int) (z.2.w : Int)) (z.2.m : Int) < ((2 ^ e : Nat) : Int)) = decide (hh &&& z.2.m / 2 ^ e = z.2.w / 2 ^ e) := by
        rw [ev, decide_eq_decide, ← htest]; omega
      refine ite2 (fun h1 => ?_) (fun h1 => ?_)
      · have c : hh &&& z.2.m / 2 ^ e = z.2.w / 2 ^ e := of_decide_eq_true (et ▸ h1)
        rw [if_pos c] at hblk
        have hmm : z.2.m % 2 ^ e < 2 ^ e := Nat.mod_lt _ hp
        have hon := ones_le e (z.2.m % 2 ^ e) hmm
        have e1 : Builtin.bitAnd (z.2.m : Int) (((2 ^ e : Nat) : Int) - 1) = ((z.2.m % 2 ^ e : Nat) : Int) := by
          rw [show ((2 ^ e : Nat) : Int) - 1 = ((2 ^ e - 1 : Nat) : Int) by omega, band, Nat.and_two_pow_sub_one_eq_mod]
        refine ⟨_, rfl, _, rfl, _, rfl, _, rfl, _, _, rfl, rfl, _, _, rfl, rfl, z.2.m % 2 ^ e, congrArg (fun z => [V.int z]) e1, by omega, fun X2 s2 => ?_⟩
        refine ⟨_, _, rfl, rfl, by omega, _, _, rfl, rfl, some (.ref z.1), some (.int (z.2.m : Int)), some (.int (z.2.w : Int)), ?_, sU.trans s2⟩
        have e2 : ((2 ^ e : Nat) : Int) / 2 ^ ((ones (z.2.m % 2 ^ e) : Nat) : Int).toNat = ((2 ^ (e - ones (z.2.m % 2 ^ e)) : Nat) : Int) := by
          rw [Int.toNat_natCast, show (2 : Int) ^ ones (z.2.m % 2 ^ e) = ((2 ^ ones (z.2.m % 2 ^ e) : Nat) : Int) by norm_cast, ← Int.natCast_ediv, Nat.pow_div hon (by decide)]
        show List.set (List.set (List.set _ _ _) _ _) _ _ = _
        simp only [List.set]
        rw [e2, tk, hblk]
        norm_cast
      · have c : ¬ hh &&& z.2.m / 2 ^ e = z.2.w / 2 ^ e := fun y => h1 (et ▸ decide_eq_true y)
        rw [if_neg c] at hblk
        refine ⟨some (.ref z.1), some (.int (z.2.m : Int)), some (.int (z.2.w : Int)), ?_, sU⟩
        rw [tk, hblk, Nat.add_zero]
        rfl
    · rintro σ X ⟨v4, v5, v6, rfl, sX⟩
      rw [refs_length, List.take_of_length_le (by rw [List.length_map]; exact Nat.le_refl _)]
      refine ⟨_, rfl, _, rfl, _, _, rfl, rfl, ?_⟩
      have := hol_sum (s := 2 ^ e * hh) (n := 2 ^ e) hdis
      have ee : ((2 ^ e : Nat) : Int) - (((ws.map (·.2)).map fun r => cnt r (2 ^ e * hh) (2 ^ e)).sum : Nat) = ((hol (ws.map (·.2)) (2 ^ e * hh) (2 ^ e) : Nat) : Int) := by omega
      have kk := k X sX
      rw [← ee] at kk
      exact kk
end
abbrev sunanswered : Stmt := top 15
theorem scunanswered : FnScope ["bits", "rows", "words"] ["bits", "rows", "words"] (defScope sunanswered) := ⟨rfl, rfl, rfl, by decide +kernel, rfl, by decide +kernel, by decide +kernel⟩
section
variable {P : Program} {w : World} {K : PySem.W.Frag} {mg : Str → Option Value} {base : Heap}
theorem okunanswered {f : Addr} {fd : FuncData} (F : Fun K "unanswered" "unanswered" sunanswered f fd) (T : Blt mg) (Gis_awake : Cal P w K mg base 1 "is_awake" ["row", "words"] spAwake) (Gsize_of : Cal P w K mg base 1 "size_of" ["bits"] spSize) (Gholes_among : Cal P w K mg base 3 "holes_among" ["rows", "start", "size"] spHoles) : FnOk P w K mg base CX0 4 f fd ["bits", "rows", "words"] spUnansw := by
  refine F.ok scunanswered (fun vs H Q E h => ?_) (fun cdv A outer s H vs Q E hr h => ?_)
  · obtain ⟨p, d, m, ws, keys, g, rfl, _⟩ := h; rfl
  · obtain ⟨p, d, m, ws, keys, g, rfl, hm, hp, hl, hws, hnc, ed, k⟩ := h
    refine' ⟨_, (pss_one (ps_ret (pe_cal Gholes_among (hr.mono (by first | decide | omega)) rfl (pa_cons ?c1 (pa_cons pe_int (pa_cons (pe_cal Gsize_of (hr.mono (by first | decide | omega)) rfl (pa_cons (pv 0) pa_nil)) pa_nil)))))), ?rd⟩
    (case c1 => exact (pe_comp (Nc := ["row", "words"]) [none, some 2] rfl (compOk_of (by rfl)) (pi_tup (pv 1)) (fun _ _ _ _ _ => (pg_name (i := 0) (show (["row", "words"] : List Str).Nodup by decide +kernel) rfl (Or.inl rfl))) (fun _ _ _ _ _ => (pf_one (pt_val (pe_cal Gis_awake (hr.mono (by first | decide | omega)) rfl (pa_cons (pv 0) (pa_cons (pv 1) pa_nil)))))) (fun _ _ _ _ _ => (pv 0))))
    refine ⟨_, rfl, p, rfl, ⟨_, SqT.of hp⟩, ?_⟩
    refine comp_tup (K := K) (a := p) (xs := refs ws) (fun i ys σ X => ∃ v0 : Option V, σ = [v0, some (.ref d)] ∧ ys = refs ((ws.take i).filter fun z => awk z.2 (wrd keys g)) ∧ X = H) (by rw [refs_length]; exact Nat.le_trans hl (by decide)) ⟨none, rfl, rfl, rfl⟩ ?_ ?_ ?_
    · rintro i ys σ X hi ⟨v0, _, rfl, rfl⟩
      exact ⟨SqT.of hp, by rw [refs_length]; exact Nat.le_trans (List.length_filter_le _ _) (by rw [List.length_take]; omega)⟩
    · rintro i x ys σ X hx ⟨v0, rfl, rfl, rfl⟩
      obtain ⟨z, hz, rfl⟩ := refs_get hx
      have rwz := (hws z (List.mem_of_getElem? hz)).1
      have tk : (ws.take (i + 1)).filter (fun z => awk z.2 (wrd keys g)) = (ws.take i).filter (fun z => awk z.2 (wrd keys g)) ++ (if awk z.2 (wrd keys g) = true then [z] else []) := by
        rw [List.take_succ, hz, List.filter_append]
        congr 1
        by_cases e : awk z.2 (wrd keys g) = true
        · rw [if_pos e]; simp [e]
        · rw [if_neg e]; simp [e]
      refine ⟨_, rfl, _, rfl, z.1, d, z.2, keys, g, rfl, rwz, ed, _, rfl, ite2 (fun h1 => ?_) (fun h1 => ?_)⟩
      · exact ⟨_, rfl, _, rfl, by rw [tk, if_pos h1, refs_snoc], rfl⟩
      · exact ⟨_, rfl, by rw [tk, if_neg h1, List.append_nil], rfl⟩
    rintro ys σ X ⟨v0, _, rfl, rfl⟩ L hL
    rw [refs_length, List.take_of_length_le (Nat.le_refl _)]
    have sL := same_new (o := .lst (refs (ws.filter fun z => awk z.2 (wrd keys g)))) hL
    refine ⟨_, rfl, m, rfl, hm, ?_⟩
    refine ⟨L, 0, m, m, ws.filter (fun z => awk z.2 (wrd keys g)), ?_, hm, hm, upd_same, fun z hz => (hws.same sL) z (List.mem_filter.mp hz).1, awake_dis hnc, fun H' s' => ?_⟩
    · rw [Nat.mul_zero]
      exact congrArg (fun z => [V.ref L, V.int 0, V.int z]) (show (2 : Int) ^ m = ((2 ^ m : Nat) : Int) by norm_cast)
    · rw [Nat.mul_zero]
      exact k H' (sL.trans s')
end
abbrev sleast_hole : Stmt := top 16
theorem scleast_hole : FnScope ["bits", "rows", "words", "awake", "size", "start"] ["bits", "rows", "words"] (defScope sleast_hole) := ⟨rfl, rfl, rfl, by decide +kernel, rfl, by decide +kernel, by decide +kernel⟩
section
variable {P : Program} {w : World} {K : PySem.W.Frag} {mg : Str → Option Value} {base : Heap}
theorem okleast_hole {f : Addr} {fd : FuncData} (F : Fun K "least_hole" "least_hole" sleast_hole f fd) (T : Blt mg) (Gis_awake : Cal P w K mg base 1 "is_awake" ["row", "words"] spAwake) (Gsize_of : Cal P w K mg base 1 "size_of" ["bits"] spSize) (Gholes_among : Cal P w K mg base 3 "holes_among" ["rows", "start", "size"] spHoles) : FnOk P w K mg base CX0 4 f fd ["bits", "rows", "words"] spLeastH := by
  refine F.ok scleast_hole (fun vs H Q E h => ?_) (fun cdv A outer s H vs Q E hr h => ?_)
  · obtain ⟨p, d, m, ws, keys, g, rfl, _⟩ := h; rfl
  · obtain ⟨p, d, m, ws, keys, g, rfl, hm, hp, hl, hws, hnc, ed, kn, ky⟩ := h
    refine ⟨_, (pss_cons (ps_setComp (i := 3) (Nc := ["row", "words"]) [none, some 2] scleast_hole.nd rfl rfl rfl (compOk_of (by rfl)) (pi_tup (pv 1)) (fun _ _ _ _ _ => (pg_name (i := 0) (show (["row", "words"] : List Str).Nodup by decide +kernel) rfl (Or.inl rfl))) (fun _ _ _ _ _ => (pf_one (pt_val (pe_cal Gis_awake (hr.mono (by first | decide | omega)) rfl (pa_cons (pv 0) (pa_cons (pv 1) pa_nil)))))) (fun _ _ _ _ _ => (pv 0)))
      (pss_cons (ps_set (i := 4) scleast_hole.nd rfl (Or.inl rfl) (pe_cal Gsize_of (hr.mono (by first | decide | omega)) rfl (pa_cons (pv 0) pa_nil)))
      (pss_cons (ps_if (pt_cmpR op_eq (pe_cal Gholes_among (hr.mono (by first | decide | omega)) rfl (pa_cons (pv 3) (pa_cons pe_int (pa_cons (pv 4) pa_nil)))) pe_int (nomark _)) (pss_one (ps_ret pe_non)) pss_nil)
      (pss_cons (ps_set (i := 5) scleast_hole.nd rfl (Or.inl rfl) pe_int)
      (pss_cons (ps_while PassesOwn.never (pt_cmpR op_gt (pv 4) pe_int (nomark _)) (pss_cons (ps_aug (i := 4) scleast_hole.nd rfl (Or.inl rfl) pe_int iop_fdiv)
      (pss_one (ps_if (pt_cmpR op_eq (pe_cal Gholes_among (hr.mono (by first | decide | omega)) rfl (pa_cons (pv 3) (pa_cons (pv 5) (pa_cons (pv 4) pa_nil)))) pe_int (nomark _)) (pss_one (ps_aug (i := 5) scleast_hole.nd rfl (Or.inl rfl) (pv 4) iop_add)) pss_nil))))
      (pss_one (ps_ret (pv 5)))))))), ?rd⟩
    refine ⟨_, rfl, p, rfl, ⟨_, SqT.of hp⟩, ?_⟩
    refine comp_tup (K := K) (a := p) (xs := refs ws) (fun i ys σ X => ∃ v0 : Option V, σ = [v0, some (.ref d)] ∧ ys = refs ((ws.take i).filter fun z => awk z.2 (wrd keys g)) ∧ X = H) (by rw [refs_length]; exact Nat.le_trans hl (by decide)) ⟨none, rfl, rfl, rfl⟩ ?_ ?_ ?_
    · rintro i ys σ X hi ⟨v0, _, rfl, rfl⟩
      exact ⟨SqT.of hp, by rw [refs_length]; exact Nat.le_trans (List.length_filter_le _ _) (by rw [List.length_take]; omega)⟩
    · rintro i x ys σ X hx ⟨v0, rfl, rfl, rfl⟩
      obtain ⟨z, hz, rfl⟩ := refs_get hx
      have rwz := (hws z (List.mem_of_getElem? hz)).1
      have tk : (ws.take (i + 1)).filter (fun z => awk z.2 (wrd keys g)) = (ws.take i).filter (fun z => awk z.2 (wrd keys g)) ++ (if awk z.2 (wrd keys g) = true then [z] else []) := by
        rw [List.take_succ, hz, List.filter_append]
        congr 1
        by_cases e : awk z.2 (wrd keys g) = true
        · rw [if_pos e]; simp [e]
        · rw [if_neg e]; simp [e]
      refine ⟨_, rfl, _, rfl, z.1, d, z.2, keys, g, rfl, rwz, ed, _, rfl, ite2 (fun h1 => ?_) (fun h1 => ?_)⟩
      · exact ⟨_, rfl, _, rfl, by rw [tk, if_pos h1, refs_snoc], rfl⟩
      · exact ⟨_, rfl, by rw [tk, if_neg h1, List.append_nil], rfl⟩
    rintro ys σ X ⟨v0, _, rfl, rfl⟩ L hL
    rw [refs_length, List.take_of_length_le (Nat.le_refl _)]
    have hdis := awake_dis (W := wrd keys g) hnc
    have rws : RwsAt2 m X (ws.filter fun z => awk z.2 (wrd keys g)) := fun z hz => hws z (List.mem_filter.mp hz).1
    change Dis (awks ws (wrd keys g)) at hdis
    have eaw : (ws.filter fun z => awk z.2 (wrd keys g)).map (·.2) = awks ws (wrd keys g) := rfl
    generalize ws.filter (fun z => awk z.2 (wrd keys g)) = us at rws eaw
    generalize awks ws (wrd keys g) = rs at hdis kn ky eaw
    have sL := same_new (o := .lst (refs us)) hL
    refine ⟨_, rfl, m, rfl, hm, ?_⟩
    have epow : (2 : Int) ^ m = ((2 ^ m : Nat) : Int) := by norm_cast
    rw [epow]
    refine ⟨_, rfl, _, rfl, L, 0, m, m, us, by rw [Nat.mul_zero]; rfl, hm, hm, upd_same, rws.same sL, by rw [eaw]; exact hdis, fun X1 s1 => ?_⟩
    rw [eaw, Nat.mul_zero]
    have s01 := sL.trans s1
    refine ⟨rfl, _, rfl, ite2 (fun h1 => ?_) (fun h1 => ?_)⟩
    · have z : hol rs 0 (2 ^ m) = 0 := by
        have z : V.int (hol rs 0 (2 ^ m) : Int) = V.int 0 := of_decide_eq_true h1
        injection z with z; omega
      exact kn z X1 s01
    have hpos : hol rs 0 (2 ^ m) ≠ 0 := fun z => h1 (by rw [z]; rfl)
    dsimp only [gName]
    refine while_by (fun σ Y => ∃ (e h : Nat), σ = [some (.int (m : Int)), some (.ref p), some (.ref d), some (.ref L), some (.int ((2 ^ e : Nat) : Int)), some (.int ((2 ^ e * h : Nat) : Int))] ∧ e ≤ m ∧ 2 ^ e * h + 2 ^ e ≤ 2 ^ m ∧ hol rs (2 ^ e * h) (2 ^ e) ≠ 0 ∧ hol rs 0 (2 ^ e * h) = 0 ∧ Same X1 Y) (fun σ _ => match σ with | [_, _, _, _, some (.int i), _] => i.toNat | _ => 0)
      ⟨m, 0, by rw [Nat.mul_zero]; rfl, Nat.le_refl _, by omega, by rw [Nat.mul_zero]; exact hpos, by rw [Nat.mul_zero]; rfl, Same.refl _⟩ ?_ ?_
    · rintro σ Y ⟨e, h, rfl, hem, hle, hn0, hz0, sY⟩
      refine ⟨_, rfl, _, _, rfl, rfl, _, rfl, ite2 (fun h2 => ?_) (fun h2 => ?_)⟩
      · have he : 1 < 2 ^ e := by have z : (1 : Int) < ((2 ^ e : Nat) : Int) := of_decide_eq_true h2; omega
        obtain ⟨e', rfl⟩ : ∃ e', e = e' + 1 := by
          cases e with
          | zero => simp at he
          | succ e' => exact ⟨e', rfl⟩
        have ep : 2 ^ (e' + 1) = 2 * 2 ^ e' := by rw [Nat.pow_succ]; omega
        have ehalf : ((2 ^ (e' + 1) : Nat) : Int) / 2 = ((2 ^ e' : Nat) : Int) := by rw [ep]; omega
        have emul : 2 ^ (e' + 1) * h = 2 ^ e' * (2 * h) := by rw [ep, Nat.mul_comm 2 (2 ^ e'), Nat.mul_assoc]
        have emul2 : 2 ^ e' * (2 * h) + 2 ^ e' = 2 ^ e' * (2 * h + 1) := by rw [Nat.mul_add, Nat.mul_one]
        refine ⟨_, rfl, _, _, rfl, rfl, ⟨by decide, by decide⟩, ?_⟩
        rw [show ((fun (i j : Int) => V.int (i / j)) ((2 ^ (e' + 1) : Nat) : Int) 2) = V.int ((2 ^ e' : Nat) : Int) from congrArg V.int ehalf]
        rw [emul] at hle hn0 hz0 ⊢
        have sLY := s1.trans sY
        refine ⟨_, rfl, _, rfl, _, rfl, L, 2 * h, e', m, us, rfl, by omega, hm, sLY _ _ upd_same, (rws.same sL).same sLY, by rw [eaw]; exact hdis, fun Y2 s2 => ?_⟩
        rw [eaw]
        have hsp : hol rs (2 ^ e' * (2 * h)) (2 ^ (e' + 1)) = hol rs (2 ^ e' * (2 * h)) (2 ^ e') + hol rs (2 ^ e' * (2 * h + 1)) (2 ^ e') := by
          rw [ep, show 2 * 2 ^ e' = 2 ^ e' + 2 ^ e' by omega, hol_add, emul2]
        have hlt : 2 ^ e' < 2 ^ (e' + 1) := by rw [ep]; omega
        refine ⟨rfl, _, rfl, ite2 (fun h3 => ?_) (fun h3 => ?_)⟩
        · have z : hol rs (2 ^ e' * (2 * h)) (2 ^ e') = 0 := by
            have z : V.int (hol rs (2 ^ e' * (2 * h)) (2 ^ e') : Int) = V.int 0 := of_decide_eq_true h3
            injection z with z; omega
          refine ⟨_, rfl, _, rfl, _, _, rfl, rfl, ⟨e', 2 * h + 1, ?_, by omega, by rw [← emul2]; omega, by omega, ?_, sY.trans s2⟩, ?_⟩
          · show [_, _, _, _, _, some (V.int (((2 ^ e' * (2 * h) : Nat) : Int) + ((2 ^ e' : Nat) : Int)))] = _
            rw [← emul2]
            norm_cast
          · rw [← emul2]
            have := hol_add rs 0 (2 ^ e' * (2 * h)) (2 ^ e')
            rw [Nat.zero_add] at this
            omega
          · show ((2 ^ e' : Nat) : Int).toNat < ((2 ^ (e' + 1) : Nat) : Int).toNat
            rw [Int.toNat_natCast, Int.toNat_natCast]; exact hlt
        · have z : hol rs (2 ^ e' * (2 * h)) (2 ^ e') ≠ 0 := fun z => h3 (by rw [z]; rfl)
          refine ⟨⟨e', 2 * h, rfl, by omega, by omega, z, hz0, sY.trans s2⟩, ?_⟩
          show ((2 ^ e' : Nat) : Int).toNat < ((2 ^ (e' + 1) : Nat) : Int).toNat
          rw [Int.toNat_natCast, Int.toNat_natCast]; exact hlt
      · have he : ¬ 1 < 2 ^ e := fun z => h2 (decide_eq_true (show (1 : Int) < ((2 ^ e : Nat) : Int) by omega))
        obtain rfl : e = 0 := by
          cases e with
          | zero => rfl
          | succ e' => exact absurd (show 1 < 2 ^ (e' + 1) by have : 0 < 2 ^ e' := Nat.pow_pos (by decide); rw [Nat.pow_succ]; omega) he
        rw [show 2 ^ 0 = 1 from rfl, Nat.one_mul] at *
        have hh : isHole rs h = true := by
          rw [hol_one] at hn0
          cases e : isHole rs h with
          | true => rfl
          | false => rw [e] at hn0; exact absurd rfl hn0
        exact ⟨_, rfl, ky h (by omega) hh hz0 Y (s01.trans sY)⟩
    · rintro σ X3 Q1 Q2 hQ ⟨v, hv, i, j, e1, e2, c, e3, h⟩
      exact ⟨v, hv, i, j, e1, e2, c, e3, hQ _ _ h⟩
end
abbrev s_law_feed : Stmt := top 18
theorem sc_law_feed : FnScope ["cell"] ["cell"] (defScope s_law_feed) := ⟨rfl, rfl, rfl, by decide +kernel, rfl, by decide +kernel, by decide +kernel⟩
section
variable {P : Program} {w : World} {K : PySem.W.Frag} {mg : Str → Option Value} {base : Heap}
theorem ok_law_feed {f : Addr} {fd : FuncData} (F : Fun K "_law_feed" "_law_feed" s_law_feed f fd) (T : Blt mg) : FnOk P w K mg base CX0 1 f fd ["cell"] spFeed := by
  refine F.ok sc_law_feed (fun vs H Q E h => ?_) (fun cdv A outer s H vs Q E hr h => ?_)
  · obtain ⟨c, rfl, _⟩ := h; rfl
  · obtain ⟨c, rfl, hb, k⟩ := h
    refine ⟨_, (pss_one (ps_ret (pe_lst (pa_cons (pe_callB (call_max2 rfl) (by rfl) T.max PyProof.Rows.boot_max (pa_cons pe_int (pa_cons (pe_op op_sub (pv 0) (pe_op op_pow pe_int pe_int)) pa_nil))) (pa_cons (pe_op op_mod (pe_op op_add (pe_op op_mulB (pv 0) (pe_op op_pow pe_int pe_int)) pe_int) (pe_op op_add (pe_op op_pow pe_int pe_int) pe_int)) (pa_cons pe_int pa_nil)))))), ?rd⟩
    walk_at "vc"
    refine And.intro (IntMulOk.of_bits hb (show Builtin.Int.intBits (6700417 ^ Int.toNat 3) ≤ 2 ^ 20 by decide +kernel)) ?_
    walk_at "vc"
    refine ⟨by show 3 ≤ sizeLine; decide, fun l hl => ?_⟩
    refine k l _ hl ⟨_, _, _, upd_same, ?_, Int.emod_nonneg _ (by decide), Int.emod_lt_of_pos _ (by decide), Int.le_refl _, Int.le_refl _⟩ (same_new hl)
    split <;> omega
end
abbrev s_law_pick : Stmt := top 19
theorem sc_law_pick : FnScope ["feed", "many", "found"] ["feed", "many"] (defScope s_law_pick) := ⟨rfl, rfl, rfl, by decide +kernel, rfl, by decide +kernel, by decide +kernel⟩
section
variable {P : Program} {w : World} {K : PySem.W.Frag} {mg : Str → Option Value} {base : Heap}
theorem ok_law_pick {f : Addr} {fd : FuncData} (F : Fun K "_law_pick" "_law_pick" s_law_pick f fd) (T : Blt mg) : FnOk P w K mg base CX0 1 f fd ["feed", "many"] spPick := by
  refine F.ok sc_law_pick (fun vs H Q E h => ?_) (fun cdv A outer s H vs Q E hr h => ?_)
  · obtain ⟨p, m, n, rfl, _⟩ := h; rfl
  · obtain ⟨p, m, n, rfl, ⟨a, b, c, hp, ha, hb, hb2, hc, hc2⟩, hn, hm, hm2, k⟩ := h
    refine ⟨_, (pss_cons (ps_if (pt_cmpR op_gt (pe_ix ix_list (pv 0) pe_int (fun _ _ => rfl)) pe_int (nomark _)) (pss_cons (ps_set (i := 2) sc_law_pick.nd rfl (Or.inl rfl) (pe_op op_mod (pe_ix ix_list (pv 0) pe_int (fun _ _ => rfl)) (pv 1)))
      (pss_cons (ps_asg (pe_op op_fdivB (pe_ix ix_list (pv 0) pe_int (fun _ _ => rfl)) (pv 1)) (pg_sub (pv 0) pe_int set_list))
      (pss_one (ps_ret (pv 2))))) pss_nil)
      (pss_cons (ps_asg (pe_op op_add (pe_ix ix_list (pv 0) pe_int (fun _ _ => rfl)) pe_int) (pg_sub (pv 0) pe_int set_list))
      (pss_cons (ps_asg (pe_op op_mod (pe_op op_add (pe_op op_mulB (pe_ix ix_list (pv 0) pe_int (fun _ _ => rfl)) (pe_ix ix_list (pv 0) pe_int (fun _ _ => rfl))) (pe_op op_mulB (pe_ix ix_list (pv 0) pe_int (fun _ _ => rfl)) (pe_op op_pow pe_int pe_int))) (pe_op op_add (pe_op op_pow pe_int pe_int) pe_int)) (pg_sub (pv 0) pe_int set_list))
      (pss_one (ps_ret (pe_op op_mod (pe_op op_fdivB (pe_ix ix_list (pv 0) pe_int (fun _ _ => rfl)) pe_int) (pv 1))))))), ?rd⟩
    have lm := log_ok hm hm2
    unfold BIG at hb2
    walk_at "vc"
    refine ite2 (fun h1 => ?_) (fun h1 => ?_)
    · walk_at "vc"
      have h0 := Int.emod_nonneg a (Int.ne_of_gt hm)
      have e : ((a % m).toNat : Int) = a % m := Int.toNat_of_nonneg h0
      have := k (a % m).toNat (upd H p (.lst [.int (a / m), .int b, .int c])) (by rw [e]; exact Int.emod_lt_of_pos _ hm) ⟨_, b, c, upd_same, Int.ediv_nonneg ha (Int.le_of_lt hm), hb, hb2, hc, by omega⟩ (fun b hb => upd_ne hb)
      rw [e] at this
      exact this
    · walk_at "vc"
      refine And.intro (mul_ok (by omega) (by omega)) ?_
      walk_at "vc"
      refine And.intro (mul_ok (by omega) (by decide)) ?_
      walk_at "vc"
      obtain ⟨v, hv⟩ : ∃ v, (b * b + (c + 1) * 39916801 ^ Int.toNat 4) % (10 ^ Int.toNat 40 + 121) = v := ⟨_, rfl⟩
      have v0 : 0 ≤ v := by rw [← hv]; exact Int.emod_nonneg _ (by decide)
      have v1 : v < BIG := by rw [← hv]; exact Int.emod_lt_of_pos _ (by decide)
      have h0 := Int.emod_nonneg (v / 65537) (Int.ne_of_gt hm)
      have e : ((v / 65537 % m).toNat : Int) = v / 65537 % m := Int.toNat_of_nonneg h0
      have := k (v / 65537 % m).toNat (upd (upd H p (.lst [.int a, .int b, .int (c + 1)])) p (.lst [.int a, .int v, .int (c + 1)])) (by rw [e]; exact Int.emod_lt_of_pos _ hm) ⟨a, v, _, upd_same, ha, v0, v1, by omega, by omega⟩ (fun b hb => by rw [upd_ne hb, upd_ne hb])
      rw [e] at this
      subst hv
      exact this
end
abbrev s_law_row : Stmt := top 20
theorem sc_law_row : FnScope ["feed", "bits", "want", "mask", "worth", "often", "k", "own", "latch"] ["feed", "bits"] (defScope s_law_row) := ⟨rfl, rfl, rfl, by decide +kernel, rfl, by decide +kernel, by decide +kernel⟩
section
variable {P : Program} {w : World} {K : PySem.W.Frag} {mg : Str → Option Value} {base : Heap}
theorem ok_law_row {f : Addr} {fd : FuncData} (F : Fun K "_law_row" "_law_row" s_law_row f fd) (T : Blt mg) (G_law_pick : Cal P w K mg base 1 "_law_pick" ["feed", "many"] spPick) : FnOk P w K mg base CX0 2 f fd ["feed", "bits"] spRow13 := by
  refine F.ok sc_law_row (fun vs H Q E h => ?_) (fun cdv A outer s H vs Q E hr h => ?_)
  · obtain ⟨p, m, n, rfl, _⟩ := h; rfl
  · obtain ⟨p, m, n, rfl, hF, hn, hm, k⟩ := h
    refine ⟨_, (pss_cons (ps_set (i := 2) sc_law_row.nd rfl (Or.inl rfl) pe_int)
      (pss_cons (ps_set (i := 3) sc_law_row.nd rfl (Or.inl rfl) pe_int)
      (pss_cons (ps_set (i := 4) sc_law_row.nd rfl (Or.inl rfl) pe_int)
      (pss_cons (ps_set (i := 5) sc_law_row.nd rfl (Or.inl rfl) (pe_op op_add pe_int (pe_cal G_law_pick (hr.mono (by first | decide | omega)) rfl (pa_cons (pv 0) (pa_cons pe_int pa_nil)))))
      (pss_cons (ps_for PassesOwn.never rfl (pi_range1 rfl T.range (pa_cons (pv 1) pa_nil)) (pg_name (i := 6) sc_law_row.nd rfl (Or.inl rfl))
      (pss_cons (ps_if (pt_cmpR op_lt (pe_cal G_law_pick (hr.mono (by first | decide | omega)) rfl (pa_cons (pv 0) (pa_cons pe_int pa_nil))) (pv 5) (nomark _)) (pss_cons (ps_set (i := 3) sc_law_row.nd rfl (Or.inl rfl) (pe_op op_add (pv 3) (pv 4)))
      (pss_one (ps_set (i := 2) sc_law_row.nd rfl (Or.inl rfl) (pe_op op_add (pv 2) (pe_op op_mulB (pv 4) (pe_cal G_law_pick (hr.mono (by first | decide | omega)) rfl (pa_cons (pv 0) (pa_cons pe_int pa_nil)))))))) pss_nil)
      (pss_one (ps_set (i := 4) sc_law_row.nd rfl (Or.inl rfl) (pe_op op_mulB (pv 4) pe_int)))))
      (pss_cons (ps_set (i := 7) sc_law_row.nd rfl (Or.inl rfl) (pe_cal G_law_pick (hr.mono (by first | decide | omega)) rfl (pa_cons (pv 0) (pa_cons pe_int pa_nil))))
      (pss_cons (ps_set (i := 8) sc_law_row.nd rfl (Or.inl rfl) (pe_tup (pa_cons (pe_cal G_law_pick (hr.mono (by first | decide | omega)) rfl (pa_cons (pv 0) (pa_cons pe_int pa_nil))) (pa_cons (pv 7) (pa_cons (pe_op op_and (pv 7) (pe_cal G_law_pick (hr.mono (by first | decide | omega)) rfl (pa_cons (pv 0) (pa_cons pe_int pa_nil)))) pa_nil)))))
      (pss_one (ps_ret (pe_tup (pa_cons (pv 3) (pa_cons (pv 2) (pa_cons pe_int (pa_cons (pe_cal G_law_pick (hr.mono (by first | decide | omega)) rfl (pa_cons (pv 0) (pa_cons pe_int pa_nil))) (pa_cons (pe_ix ix_list (pe_lst (pa_cons pe_non (pa_cons (pv 8) (pa_cons (pv 8) pa_nil)))) (pe_cal G_law_pick (hr.mono (by first | decide | omega)) rfl (pa_cons (pv 0) (pa_cons pe_int pa_nil))) (fun _ _ => rfl)) pa_nil))))))))))))))), ?rd⟩
    refine ⟨_, rfl, p, _, n, rfl, hF, by omega, by decide, by decide, fun r1 H1 hr1 hF1 k1 => ⟨_, _, rfl, rfl, ?_⟩⟩
    have kp1 : KeepP p H H1 := fun b o hb e => by rw [k1 b hb]; exact e
    obtain ⟨often, eo⟩ : ∃ o : Int, (fun (i j : Int) => V.int (i + j)) 1 (r1 : Int) = .int o := ⟨_, rfl⟩
    rw [eo]
    refine ⟨_, rfl, _, rfl, by omega, by omega, for_range (n := m) (fun i σ X => ∃ (v6 : Option V) (lm lw : List Nat), σ = [some (.ref p), some (.int (m : Int)), some (.int (num lw : Int)), some (.int (num lm : Int)), some (.int ((2 ^ i : Nat) : Int)), some (.int often), v6, none, none] ∧ lm.length = i ∧ lw.length = i ∧ Bit lm ∧ Bit lw ∧ (∀ (k x y : Nat), lm[k]? = some x → lw[k]? = some y → y ≤ x) ∧ FeedAt X p (n + 1 + 2 * i) ∧ KeepP p H X)
      ⟨none, [], [], rfl, rfl, rfl, (fun _ h => nomatch h), (fun _ h => nomatch h), (fun k x y e => by simp at e), hF1, kp1⟩ ?_ ?_⟩
    · rintro i σ X hi ⟨v6, lm, lw, rfl, hlm, hlw, hbm, hbw, hle, hFX, kX⟩
      have hp16 : 2 ^ i ≤ 16 := Nat.le_trans (Nat.pow_le_pow_right (n := 2) (by decide) (show i ≤ 4 by omega)) (by decide)
      have ns : ∀ (l : List Nat) (b : Nat), l.length = i → num (l ++ [b]) = num l + 2 ^ i * b := fun l b h => by rw [num_append, h]; simp [num]
      dsimp only [gName]
      refine seq_step (fun σ Y => σ = [some (.ref p), some (.int (m : Int)), some (.int (num lw : Int)), some (.int (num lm : Int)), some (.int ((2 ^ i : Nat) : Int)), some (.int often), some (.int (0 + (i : Int))), none, none] ∧ Y = X)
        (fun σ Y => ∃ b c : Nat, b ≤ 1 ∧ c ≤ 1 ∧ c ≤ b ∧ σ = [some (.ref p), some (.int (m : Int)), some (.int (num (lw ++ [c]) : Int)), some (.int (num (lm ++ [b]) : Int)), some (.int ((2 ^ i : Nat) : Int)), some (.int often), some (.int (0 + (i : Int))), none, none] ∧ FeedAt Y p (n + 1 + 2 * i + 2) ∧ KeepP p H Y) ?_ ?_ _ _ ⟨rfl, rfl⟩
      · rintro σ Y ⟨rfl, rfl⟩ N hN
        refine ⟨_, rfl, p, _, _, rfl, hFX, by omega, by decide, by decide, fun r2 X2 hr2 hF2 k2 => ⟨_, rfl, _, _, rfl, rfl, _, rfl, ?_⟩⟩
        have kp2 : KeepP p H X2 := fun b o hb e => by rw [k2 b hb]; exact kX b o hb e
        refine ite2 (fun _ => ?_) (fun _ => hN _ _ ⟨0, 0, by omega, by omega, by omega, by rw [ns lw 0 hlw, ns lm 0 hlm, Nat.mul_zero, Nat.add_zero, Nat.add_zero], hF2.mono (by omega), kp2⟩)
        refine ⟨_, rfl, _, rfl, _, _, rfl, rfl, ?_⟩
        refine ⟨_, rfl, _, rfl, _, rfl, p, _, _, rfl, hF2, by omega, by decide, by decide, fun c X3 hc hF3 k3 => ⟨_, _, rfl, rfl, mul_ok (by rw [Int.natAbs_natCast]; exact Nat.lt_of_le_of_lt hp16 (by decide)) (by omega), _, _, rfl, rfl, ?_⟩⟩
        refine hN _ _ ⟨1, c, by omega, by omega, by omega, ?_, hF3.mono (by omega), fun b o hb e => by rw [k3 b hb]; exact kp2 b o hb e⟩
        rw [ns lw c hlw, ns lm 1 hlm]
        show List.set (List.set _ _ _) _ _ = _
        simp only [List.set]
        norm_cast
        rw [Nat.mul_one]
      · rintro σ Y ⟨b, c, hb, hc, hcb, rfl, hFY, kY⟩
        refine ⟨_, rfl, _, _, rfl, rfl, mul_ok (by rw [Int.natAbs_natCast]; exact Nat.lt_of_le_of_lt hp16 (by decide)) (by decide), some (.int (0 + (i : Int))), lm ++ [b], lw ++ [c], ?_, by simp [hlm], by simp [hlw], bit_snoc hbm hb, bit_snoc hbw hc, fun k x y e1 e2 => ?_, hFY.mono (by omega), kY⟩
        · show List.set _ _ _ = _
          simp only [List.set]
          rw [Nat.pow_succ]
          norm_cast
        · rcases get_snoc e1 with z | ⟨z1, rfl⟩
          · rcases get_snoc e2 with z' | ⟨z1', rfl⟩
            · exact hle k x y z z'
            · have := (List.getElem?_eq_some_iff.mp z).1; omega
          · rcases get_snoc e2 with z' | ⟨z1', rfl⟩
            · have := (List.getElem?_eq_some_iff.mp z').1; omega
            · exact hcb
    · rintro σ X ⟨v6, lm, lw, rfl, hlm, hlw, hbm, hbw, hle, hFX, kX⟩
      refine ⟨_, rfl, p, _, _, rfl, hFX, by omega, by decide, by decide, fun own X1 hown hF1' k1' => ?_⟩
      refine ⟨_, rfl, p, _, _, rfl, hF1', by omega, by decide, by decide, fun c X2 hc hF2 k2 => ?_⟩
      refine ⟨_, rfl, _, rfl, _, rfl, p, _, _, rfl, hF2, by omega, by decide, by decide, fun x X3 hx hF3 k3 => ⟨_, _, rfl, rfl, ?_⟩⟩
      rw [show ((fun (i j : Int) => V.int (Builtin.bitAnd i j)) (own : Int) (x : Int)) = V.int ((own &&& x : Nat) : Int) from congrArg V.int (band own x)]
      refine ⟨by show 3 ≤ sizeLine; decide, fun u hu => ?_⟩
      have su := same_new (o := .tup [.int (c : Int), .int (own : Int), .int ((own &&& x : Nat) : Int)]) hu
      have nup : u ≠ p := hF3.ne hu
      refine ⟨_, rfl, _, rfl, _, rfl, p, _, _, rfl, hF3.same su, by omega, by decide, by decide, fun ch X4 hch hF4 k4 => ?_⟩
      refine ⟨_, rfl, _, rfl, by show 3 ≤ sizeLine; decide, fun q hq => ?_⟩
      have nqp : q ≠ p := hF4.ne hq
      refine ⟨_, rfl, p, _, _, rfl, hF4.same (same_new hq), by omega, by decide, by decide, fun r5 X5 hr5 hF5 k5 => ?_⟩
      have eu5 : X5 u = some (.tup [.int (c : Int), .int (own : Int), .int ((own &&& x : Nat) : Int)]) := by rw [k5 u nup]; exact same_new hq _ _ (by rw [k4 u nup]; exact upd_same)
      obtain ⟨lt, o, hat, hlt, hls⟩ : ∃ (lt : V) (o : Option (Nat × Nat × Nat)), atI [V.non, V.ref u, V.ref u] (r5 : Int) = some lt ∧ LatV X5 lt o ∧ LatS o := by
        have hs : LatS (some (c, own, own &&& x)) := ⟨by omega, by omega, by rw [Nat.and_comm, ← Nat.and_assoc, Nat.and_self]⟩
        rcases (show r5 = 0 ∨ r5 = 1 ∨ r5 = 2 by omega) with rfl | rfl | rfl
        · exact ⟨.non, none, rfl, rfl, trivial⟩
        · exact ⟨.ref u, some (c, own, own &&& x), rfl, ⟨u, rfl, eu5⟩, hs⟩
        · exact ⟨.ref u, some (c, own, own &&& x), rfl, ⟨u, rfl, eu5⟩, hs⟩
      refine ⟨q, _, _, _, rfl, rfl, SqL.of (by rw [k5 q nqp]; exact upd_same), hat, by show 5 ≤ sizeLine; decide, fun t ht => ?_⟩
      have e1 := num_lt lm hbm
      have e2 := num_lt lw hbw
      rw [hlm] at e1; rw [hlw] at e2
      refine k t _ ⟨num lm, num lw, 0, ch, o⟩ ⟨lt, upd_same, hlt.same (same_new ht)⟩ ⟨e1, e2, num_sub (hlw.trans hlm.symm) hbw hbm hle, Nat.pow_pos (by decide), by simp, by show ch < 100; omega, hls.ok⟩ hls ((hF5.same (same_new ht)).mono (by omega)) fun b o' hb e => ?_
      refine same_new ht _ _ ?_
      rw [k5 b hb]
      refine same_new hq _ _ ?_
      rw [k4 b hb]
      refine su _ _ ?_
      rw [k3 b hb, k2 b hb, k1' b hb]
      exact kX b o' hb e
end
abbrev s_law_answer : Stmt := top 21
theorem sc_law_answer : FnScope ["rows", "address", "words", "found", "k", "row", "on", "chip", "own", "wish"] ["rows", "address", "words"] (defScope s_law_answer) := ⟨rfl, rfl, rfl, by decide +kernel, rfl, by decide +kernel, by decide +kernel⟩
section
variable {P : Program} {w : World} {K : PySem.W.Frag} {mg : Str → Option Value} {base : Heap}
theorem ok_law_answer {f : Addr} {fd : FuncData} (F : Fun K "_law_answer" "_law_answer" s_law_answer f fd) (T : Blt mg) : FnOk P w K mg base CX0 1 f fd ["rows", "address", "words"] spAnsL := by
  refine F.ok sc_law_answer (fun vs H Q E h => ?_) (fun cdv A outer s H vs Q E hr h => ?_)
  · obtain ⟨p, d, m, x, a, b, ws, rfl, _⟩ := h; rfl
  · obtain ⟨p, d, m, x, a, b, ws, rfl, hp, hl, hws, ed, k⟩ := h
    refine ⟨_, (pss_cons (ps_set (i := 3) sc_law_answer.nd rfl (Or.inl rfl) (pe_lst pa_nil))
      (pss_cons (ps_for PassesOwn.never rfl (pi_enumT rfl T.enumerate (pa_cons (pv 0) pa_nil)) (pg_tup rfl (pgs_cons (pg_name (i := 4) sc_law_answer.nd rfl (Or.inl rfl)) (pgs_cons (pg_name (i := 5) sc_law_answer.nd rfl (Or.inl rfl)) pgs_nil)))
      (pss_cons (ps_set (i := 6) sc_law_answer.nd rfl (Or.inl rfl) (pe_cmp (pc_isN (pe_ix ix_tup (pv 5) pe_int (fun _ _ => rfl)))))
      (pss_cons (ps_if (pt_not (pt_val (pv 6))) (pss_cons (ps_asg (pe_ix ix_tup (pv 5) pe_int (fun _ _ => rfl)) (pg_tup rfl (pgs_cons (pg_name (i := 7) sc_law_answer.nd rfl (Or.inl rfl)) (pgs_cons (pg_name (i := 8) sc_law_answer.nd rfl (Or.inl rfl)) (pgs_cons (pg_name (i := 9) sc_law_answer.nd rfl (Or.inl rfl)) pgs_nil)))))
      (pss_one (ps_set (i := 6) sc_law_answer.nd rfl (Or.inl rfl) (pe_cmpR op_eq (pe_op op_and (pe_dget (hu_of hr) (pv 2) (pv 7) (fun _ _ => rfl)) (pv 8)) (pv 9) (nomark _))))) pss_nil)
      (pss_one (ps_if (PW.pt (pw_and (pt_val (pv 6)) (pw_and1 (pt_cmpR op_eq (pe_op op_and (pv 1) (pe_ix ix_tup (pv 5) pe_int (fun _ _ => rfl))) (pe_ix ix_tup (pv 5) pe_int (fun _ _ => rfl)) (nomark _))))) (pss_one (ps_expr (pe_bm PySem.F.plainAttrs_list PySem.F.slot_list_append PySem.F.type_list_append mt_append (pv 3) (pa_cons (pv 4) pa_nil)))) pss_nil)))))
      (pss_one (ps_ret (pv 3))))), ?rd⟩
    refine ⟨by show 0 ≤ sizeLine; decide, fun fa hfa => ?_⟩
    have s1 := same_new (o := .lst []) hfa
    refine ⟨_, rfl, p, rfl, ⟨_, SqT.of (s1 _ _ hp)⟩, ?_⟩
    refine for_enumT (K := K) (a := p) (xs := refs ws) (fun i σ X => ∃ (v4 v5 v6 v7 v8 v9 : Option V), σ = [some (.ref p), some (.int (x : Int)), some (.ref d), some (.ref fa), v4, v5, v6, v7, v8, v9] ∧ X fa = some (.lst (vN (ansL (ws.map (·.2)) x (wrd [0, 1] (w2 a b)) i))) ∧ Same H X) ⟨_, _, _, _, _, _, rfl, upd_same, s1⟩ (fun i σ X hi ⟨_, _, _, _, _, _, _, _, s⟩ => SqT.of (s _ _ hp)) ?_ ?_
    · rintro i y U σ X hy hU ⟨v4, v5, v6, v7, v8, v9, rfl, efa, sX⟩
      obtain ⟨z, hz, rfl⟩ := refs_get hy
      have hi : i < ws.length := (List.getElem?_eq_some_iff.mp hz).1
      have hzi : (ws.map (·.2))[i]? = some z.2 := by rw [List.getElem?_map, hz]; rfl
      have sU1 := same_new (o := .tup [.int (i : Int), .ref z.1]) hU
      have sU := sX.trans sU1
      have nUf : U ≠ fa := fun y => by rw [y, efa] at hU; cases hU
      obtain ⟨rwz, lsz⟩ := hws z (List.mem_of_getElem? hz)
      obtain ⟨lt, ez, hlt⟩ := rwz.same sU
      have efU := sU1 _ _ efa
      refine g_pair ?_
      refine ⟨_, rfl, z.1, _, _, _, rfl, rfl, SqT.of ez, rfl, ?_⟩
      -- on, whether the words let it answer
      dsimp only [gName]
      refine seq_step (fun σ G => σ = [some (.ref p), some (.int (x : Int)), some (.ref d), some (.ref fa), some (.int (i : Int)), some (.ref z.1), some (.bl (decide (lt = .non))), v7, v8, v9] ∧ G = upd X U (.tup [.int (i : Int), .ref z.1]))
        (fun σ G => ∃ (v7 v8 v9 : Option V), σ = [some (.ref p), some (.int (x : Int)), some (.ref d), some (.ref fa), some (.int (i : Int)), some (.ref z.1), some (.bl (awk z.2 (wrd [0, 1] (w2 a b)))), v7, v8, v9] ∧ G = upd X U (.tup [.int (i : Int), .ref z.1])) ?_ ?_ _ _ ⟨rfl, rfl⟩
      · rintro σ G ⟨rfl, rfl⟩ N hN
        cases hl' : z.2.l with
        | none =>
          rw [hl'] at hlt
          obtain rfl : lt = .non := hlt
          refine ⟨_, rfl, _, rfl, iteF (hN _ _ ⟨v7, v8, v9, ?_, rfl⟩)⟩
          rw [show awk z.2 (wrd [0, 1] (w2 a b)) = true by unfold awk; rw [hl']]
          rfl
        | some o =>
          obtain ⟨c, u, v⟩ := o
          rw [hl'] at hlt lsz
          obtain ⟨lp, rfl, elp⟩ := hlt
          have hc : c ∈ ([0, 1] : List Nat) := by have := lsz.1; rcases (show c = 0 ∨ c = 1 by omega) with rfl | rfl <;> simp
          refine ⟨_, rfl, _, rfl, iteT ?_⟩
          refine ⟨_, rfl, z.1, _, _, _, rfl, rfl, SqT.of ez, rfl, lp, _, rfl, SqT.of elp, rfl, _, _, rfl, _, _, rfl, _, _, rfl, rfl, ?_⟩
          have get : DGet (upd X U (.tup [.int (i : Int), .ref z.1])) d (.int (c : Int)) (some (.int (wrd [0, 1] (w2 a b) c : Int))) := by
            have g := DGet.k (k := Sum.inl (c : Int)) (sU _ _ ed)
            unfold dV at g
            rw [dN_val hc] at g
            unfold wrd
            rw [if_pos hc]
            exact g
          refine ⟨_, rfl, _, rfl, d, _, rfl, get, _, rfl, _, _, rfl, rfl, _, rfl, rfl, ?_⟩
          refine hN _ _ ⟨some (.int (c : Int)), some (.int (u : Int)), some (.int (v : Int)), ?_, rfl⟩
          rw [← awk_eq hl']
          rfl
      · rintro σ G ⟨v7, v8, v9, rfl, rfl⟩
        have succ := ansL_succ (ws.map (·.2)) x (wrd [0, 1] (w2 a b)) i
        rw [hzi] at succ
        have succ : ansL (ws.map (·.2)) x (wrd [0, 1] (w2 a b)) (i + 1) = ansL (ws.map (·.2)) x (wrd [0, 1] (w2 a b)) i ++ (if ans z.2 x (wrd [0, 1] (w2 a b)) = true then [i] else []) := succ
        have no : ans z.2 x (wrd [0, 1] (w2 a b)) = false → ansL (ws.map (·.2)) x (wrd [0, 1] (w2 a b)) (i + 1) = ansL (ws.map (·.2)) x (wrd [0, 1] (w2 a b)) i := fun h => by rw [succ, h]; simp
        refine ⟨_, rfl, _, rfl, ite2 (fun h1 => ?_) (fun h1 => ?_)⟩
        · refine ⟨_, rfl, _, rfl, z.1, _, _, _, rfl, rfl, SqT.of ez, rfl, _, _, rfl, rfl, _, rfl, z.1, _, _, _, rfl, rfl, SqT.of ez, rfl, rfl, _, rfl, ?_⟩
          rw [met_eq]
          refine ite2 (fun h2 => ?_) (fun h2 => ?_)
          · refine ⟨_, rfl, .inl ⟨rfl, _, SqL.of efU⟩, _, rfl, fa, _, _, rfl, rfl, efU, ?_, ?_⟩
            · rw [vN_length]; exact Nat.lt_of_le_of_lt (Nat.le_trans (ansL_len _ _ _ _) (show i ≤ 10 by omega)) (by decide)
            · refine ⟨_, _, _, _, _, _, rfl, ?_, fun y o e => by rw [upd_ne (ne_of_none e hfa)]; exact sU _ _ e⟩
              rw [upd_same, succ, if_pos (by unfold ans; rw [h1, h2]; rfl), vN_snoc]
          · exact ⟨_, _, _, _, _, _, rfl, by rw [no (by unfold ans; rw [Bool.eq_false_iff.mpr h2, Bool.false_and])]; exact efU, sU⟩
        · exact iteF ⟨_, _, _, _, _, _, rfl, by rw [no (by unfold ans; rw [Bool.eq_false_iff.mpr h1, Bool.and_false])]; exact efU, sU⟩
    · rintro σ X ⟨v4, v5, v6, v7, v8, v9, rfl, efa, sX⟩
      rw [refs_length] at efa
      exact ⟨_, rfl, k fa X hfa efa sX⟩
end
abbrev s_law_least : Stmt := top 22
theorem sc_law_least : FnScope ["rows", "found", "chip", "mine", "good"] ["rows"] (defScope s_law_least) := ⟨rfl, rfl, rfl, by decide +kernel, rfl, by decide +kernel, by decide +kernel⟩
section
variable {P : Program} {w : World} {K : PySem.W.Frag} {mg : Str → Option Value} {base : Heap}
theorem ok_law_least {f : Addr} {fd : FuncData} (F : Fun K "_law_least" "_law_least" s_law_least f fd) (T : Blt mg) : FnOk P w K mg base CX0 1 f fd ["rows"] spLeast13 := by
  refine F.ok sc_law_least (fun vs H Q E h => ?_) (fun cdv A outer s H vs Q E hr h => ?_)
  · obtain ⟨L, t, u, r, q, rfl, _⟩ := h; rfl
  · obtain ⟨L, t, u, r, q, rfl, eL, rwt, rwu, lsr, lsq, hla, k⟩ := h
    refine' ⟨_, (pss_cons (ps_set (i := 1) sc_law_least.nd rfl (Or.inl rfl) (pe_lst pa_nil))
      (pss_cons (ps_for PassesOwn.never rfl (pi_range1 rfl T.range (pa_cons pe_int pa_nil)) (pg_name (i := 2) sc_law_least.nd rfl (Or.inr rfl))
      (pss_cons (ps_set (i := 3) sc_law_least.nd rfl (Or.inr rfl) ?c1)
      (pss_one (ps_if (pt_cmpR (op_neL0 (Nat.lt_of_succ_lt (hu_of hr)) (K := K) rfl) (pv 3) (pe_lst pa_nil) (nomark _)) (pss_cons (ps_setCompC (i := 4) (Nc := ["word", "mine"]) [none, some 3] sc_law_least.nd rfl rfl rfl (compOk2_of (by rfl)) (pi_range1 rfl T.range (pa_cons pe_int pa_nil)) (fun _ _ _ _ _ => (pg_name (i := 0) (show (["word", "mine"] : List Str).Nodup by decide +kernel) rfl (Or.inr rfl))) (fun _ _ _ _ _ => (pf_one (pt_val (pe_callB (call_allE (K := K) rfl rfl) (by rfl) T.all bt_all (pa_cons (pe_comp (Nc := ["c", "a", "b", "word"]) [none, none, none, some 0] rfl (compOk_of (by rfl)) ((pi_listE (K := K) rfl) (pv 1)) (fun _ _ _ _ _ => (pg_tupE 3 (K := K) rfl rfl (pgs_cons (pg_name (i := 0) (show (["c", "a", "b", "word"] : List Str).Nodup by decide +kernel) rfl (Or.inl rfl)) (pgs_cons (pg_name (i := 1) (show (["c", "a", "b", "word"] : List Str).Nodup by decide +kernel) rfl (Or.inl rfl)) (pgs_cons (pg_name (i := 2) (show (["c", "a", "b", "word"] : List Str).Nodup by decide +kernel) rfl (Or.inl rfl)) pgs_nil))))) (fun _ _ _ _ _ => pf_nil) (fun _ _ _ _ _ => (pe_cmpR op_eq (pe_op op_and (pv 3) (pv 1)) (pv 2) (nomark _)))) pa_nil))))) (fun _ _ _ _ _ => (pv 0)))
      (pss_one (ps_expr (pe_bm PySem.F.plainAttrs_list PySem.F.slot_list_append PySem.F.type_list_append mt_append (pv 1) (pa_cons (pe_tup (pa_cons (pv 2) (pa_cons (pe_ix ix_list (pv 4) pe_int (fun _ _ => rfl)) pa_nil))) pa_nil))))) pss_nil))))
      (pss_one (ps_ret (pe_callTy call_tuple_of (by rfl) T.tuple bt_tuple (pa_cons (pv 1) pa_nil)))))), ?rd⟩
    (case c1 => exact (pe_comp (Nc := ["row", "chip"]) [none, some 2] rfl (compOk_of (by rfl)) (pi_list (pv 0)) (fun _ _ _ _ _ => (pg_name (i := 0) (show (["row", "chip"] : List Str).Nodup by decide +kernel) rfl (Or.inl rfl))) (fun _ _ _ _ _ => (pf_one (PW.pt (pw_and (pt_cmp (pc_notN (pe_ix (ix_tupE (K := K) rfl) (pv 0) pe_int (fun _ _ => rfl)))) (pw_and1 (pt_cmpR op_eq (pe_ix (ix_tupE (K := K) rfl) (pe_ix (ix_tupE (K := K) rfl) (pv 0) pe_int (fun _ _ => rfl)) pe_int (fun _ _ => rfl)) (pv 1) (nomark _))))))) (fun _ _ _ _ _ => (pe_ix (ix_tupE (K := K) rfl) (pv 0) pe_int (fun _ _ => rfl)))))
    obtain ⟨lt, et, hlt⟩ := rwt
    obtain ⟨lu, eu, hlu⟩ := rwu
    generalize hls : lats r.l q.l = ls
    refine ⟨by show 0 ≤ sizeLine; decide, fun fa hfa => ?_⟩
    have s1 := same_new (o := .lst []) hfa
    refine ⟨2, rfl, by decide, by decide, ?_⟩
    refine for_range (n := 2) (fun i σ X => ∃ (v2 v3 v4 : Option V) (ts : List Addr) (sk : List Nat) (g : Nat → V), σ = [some (.ref L), some (.ref fa), v2, v3, v4] ∧ X fa = some (.lst (ts.map V.ref)) ∧ ts.length = sk.length ∧ (∀ (j : Nat) (tt : Addr) (c : Nat), ts[j]? = some tt → sk[j]? = some c → X tt = some (.tup [.int (c : Int), g c])) ∧ sk.Nodup ∧ sk.Pairwise (· ≤ ·) ∧ (∀ c, c ∈ sk ↔ c < i ∧ c ∈ ls.map (·.1)) ∧ (∀ c, c ∈ sk → ∃ w : Nat, g c = .int (w : Int) ∧ Least ls c w) ∧ Same H X)
      ⟨_, _, _, [], [], fun _ => .non, rfl, upd_same, rfl, (fun j tt c e => by simp at e), List.nodup_nil, List.Pairwise.nil, (fun c => by simp), (fun c hc => nomatch hc), s1⟩ ?_ ?_
    · rintro c σ X hc ⟨v2, v3, v4, ts, sk, g, rfl, efa, htl, hts, nd, hsk, hmem, hg, sX⟩
      rw [show (0 : Int) + (c : Int) = (c : Int) from Int.zero_add _]
      -- mine
      refine ⟨_, rfl, L, rfl, ⟨_, SqL.of (sX _ _ eL)⟩, ?_⟩
      refine comp_list (K := K) (a := L) (xs := [.ref t, .ref u]) (fun i ys σ X' => ∃ (v0 : Option V) (bs : List Addr), σ = [v0, some (.int (c : Int))] ∧ ys = bs.map V.ref ∧ LatsAt H bs ((if i = 0 then [] else if i = 1 then r.l.toList else lats r.l q.l).filter fun z => decide (z.1 = c)) ∧ bs.length ≤ i ∧ X' = X) (by show 2 ≤ sizeLine; decide) ⟨none, [], rfl, rfl, ⟨rfl, fun j a z e => by simp at e⟩, Nat.le_refl _, rfl⟩ ?_ ?_ ?_
      · rintro i ys σ X' hi ⟨v0, bs, _, rfl, _, hl, rfl⟩
        exact ⟨SqL.of (sX _ _ eL), by rw [List.length_map]; exact hl⟩
      · rintro i x ys σ X' hx ⟨v0, bs, rfl, rfl, hL', hl, rfl⟩
        obtain ⟨a, lv, o, rr, rfl, ea, hlv, hnext⟩ : ∃ (a : Addr) (lv : V) (o : Option (Nat × Nat × Nat)) (rr : Rw), x = .ref a ∧ H a = some (.tup [.int (rr.m : Int), .int (rr.w : Int), .int (rr.i : Int), .int (rr.c : Int), lv]) ∧ LatV H lv o ∧ (if i + 1 = 0 then [] else if i + 1 = 1 then r.l.toList else lats r.l q.l) = (if i = 0 then [] else if i = 1 then r.l.toList else lats r.l q.l) ++ o.toList := by
          rcases (show i = 0 ∨ i = 1 by have := (List.getElem?_eq_some_iff.mp hx).1; simp at this; omega) with rfl | rfl
          · cases hx; exact ⟨t, lt, r.l, r, rfl, et, hlt, rfl⟩
          · cases hx; exact ⟨u, lu, q.l, q, rfl, eu, hlu, rfl⟩
        rw [hnext, List.filter_append]
        refine ⟨_, rfl, a, _, _, _, rfl, rfl, SqT.of (sX _ _ ea), rfl, _, rfl, ?_⟩
        match o, hlv with
        | none, hlv =>
          obtain rfl : lv = .non := hlv
          exact iteF (iteF ⟨_, bs, rfl, rfl, by rw [show (none : Option (Nat × Nat × Nat)).toList = [] from rfl, List.filter_nil, List.append_nil]; exact hL', by omega, rfl⟩)
        | some (c', x', y'), hlv =>
          obtain ⟨lp, rfl, elp⟩ := hlv
          refine iteT ⟨_, rfl, a, _, _, _, rfl, rfl, SqT.of (sX _ _ ea), rfl, lp, _, _, _, rfl, rfl, SqT.of (sX _ _ elp), rfl, _, rfl, rfl, _, rfl, ite2 (fun h1 => ?_) (fun h1 => ?_)⟩
          · have e : c' = c := by
              have z : V.int (c' : Int) = V.int (c : Int) := of_decide_eq_true h1
              injection z with z; exact Int.ofNat.inj z
            refine ⟨_, rfl, a, _, _, _, rfl, rfl, SqT.of (sX _ _ ea), rfl, _, bs ++ [lp], rfl, by simp, ?_, by simp; omega, rfl⟩
            rw [show ((some (c', x', y')).toList.filter fun z : Nat × Nat × Nat => decide (z.1 = c)) = [(c', x', y')] by simp [e]]
            exact hL'.snoc elp
          · have e : ¬ c' = c := fun z => h1 (decide_eq_true (by rw [z]))
            refine ⟨_, bs, rfl, rfl, ?_, by omega, rfl⟩
            rw [show ((some (c', x', y')).toList.filter fun z : Nat × Nat × Nat => decide (z.1 = c)) = [] by simp [e], List.append_nil]
            exact hL'
      rintro ys σ X' ⟨v0, bs, _, rfl, hbs, hb2, rfl⟩ M hM
      have hbs : LatsAt H bs ((lats r.l q.l).filter fun z => decide (z.1 = c)) := hbs
      have hb2 : bs.length ≤ 2 := hb2
      rw [hls] at hbs
      have sM := same_new (o := .lst (bs.map V.ref)) hM
      have hbsX : ∀ (Y : Hp), Same X' Y → LatsAt Y bs (ls.filter fun z => decide (z.1 = c)) := fun Y sY => hbs.same (sX.trans sY)
      generalize hmi : ls.filter (fun z => decide (z.1 = c)) = lm at hbs hbsX
      have fit : ∀ w, Fits ls c w ↔ ∀ z ∈ lm, w &&& z.2.1 = z.2.2 := fun w => by
        rw [← hmi]
        constructor
        · intro h z hz
          obtain ⟨z1, z2⟩ := List.mem_filter.mp hz
          exact h z z1 (of_decide_eq_true z2)
        · intro h z hz e
          exact h z (List.mem_filter.mpr ⟨hz, decide_eq_true e⟩)
      have inl : (c ∈ ls.map (·.1)) ↔ lm ≠ [] := by
        rw [← hmi]
        constructor
        · intro h z
          obtain ⟨y, hy, e⟩ := List.mem_map.mp h
          have : y ∈ ls.filter (fun z => decide (z.1 = c)) := List.mem_filter.mpr ⟨hy, decide_eq_true e⟩
          rw [z] at this; cases this
        · intro h
          cases e : ls.filter (fun z => decide (z.1 = c)) with
          | nil => exact absurd e h
          | cons y l =>
            have : y ∈ ls.filter (fun z => decide (z.1 = c)) := by rw [e]; exact List.mem_cons_self
            obtain ⟨z1, z2⟩ := List.mem_filter.mp this
            exact List.mem_map.mpr ⟨y, z1, of_decide_eq_true z2⟩
      -- if mine != []
      dsimp only [gName]
      refine ⟨_, rfl, by show 0 ≤ sizeLine; decide, fun e he => ⟨M, e, _, rfl, rfl, SqL.of (same_new he _ _ upd_same), SqL.of upd_same, _, rfl, ?_⟩⟩
      have sE1 := same_new (o := .lst []) he
      have sE := sM.trans sE1
      have efE := sE _ _ efa
      have stay : ∀ (Y : Hp) (j : Nat) (tt : Addr) (c' : Nat), Same X' Y → ts[j]? = some tt → sk[j]? = some c' → Y tt = some (.tup [.int (c' : Int), g c']) := fun Y j tt c' sY e1 e2 => sY _ _ (hts j tt c' e1 e2)
      refine ite2 (fun h1 => ?_) (fun h1 => ?_)
      · have hne : lm ≠ [] := fun z => by
          have := hbs.1
          rw [z] at this
          have : bs = [] := List.eq_nil_of_length_eq_zero this
          subst this
          cases h1
        have hcin := inl.mpr hne
        obtain ⟨w0, hw0, hf0⟩ : ∃ w, w < 4 ∧ Fits ls c w := by
          obtain ⟨a, b, ha, hb, g1, g2⟩ := words_of lsr lsq hla
          refine ⟨wrd [0, 1] (w2 a b) c, ?_, fun z hz e => ?_⟩
          · rcases (show c = 0 ∨ c = 1 by omega) with rfl | rfl
            · exact ha
            · exact hb
          · rw [← hls] at hz
            unfold lats at hz
            unfold awk at g1 g2
            rcases List.mem_append.mp hz with y | y
            · cases l1 : r.l with
              | none => rw [l1] at y; cases y
              | some o =>
                rw [l1] at y g1
                have : z = o := by simpa using y
                subst this
                obtain ⟨c', u', v'⟩ := z
                have e : c' = c := e
                subst e
                exact of_decide_eq_true g1
            · cases l1 : q.l with
              | none => rw [l1] at y; cases y
              | some o =>
                rw [l1] at y g2
                have : z = o := by simpa using y
                subst this
                obtain ⟨c', u', v'⟩ := z
                have e : c' = c := e
                subst e
                exact of_decide_eq_true g2
        -- good
        refine ⟨4, rfl, by decide, by decide, ?_⟩
        have eME : upd (upd X' M (.lst (bs.map V.ref))) e (.lst []) M = some (.lst (bs.map V.ref)) := sE1 _ _ upd_same
        refine comp_range (n := 4) (fun i ys σ Y => ∃ (v0 : Option V) (l : List Nat), σ = [v0, some (.ref M)] ∧ ys = vN l ∧ l.length ≤ i ∧ ((l = [] ∧ ∀ w, w < i → ¬ Fits ls c w) ∨ ∃ (h : Nat) (tl : List Nat), l = h :: tl ∧ Least ls c h) ∧ Same (upd (upd X' M (.lst (bs.map V.ref))) e (.lst [])) Y) (by decide) ⟨none, [], rfl, rfl, Nat.le_refl _, .inl ⟨rfl, fun w hw => absurd hw (Nat.not_lt_zero _)⟩, Same.refl _⟩ ?_ ?_ ?_
        · rintro i ys σ Y ⟨v0, l, _, rfl, hl, _⟩
          rw [vN_length]; exact hl
        · rintro i ys σ Y hi ⟨v0, l, rfl, rfl, hl, hh, sY⟩
          rw [show (0 : Int) + (i : Int) = (i : Int) from Int.zero_add _]
          refine ⟨_, rfl, M, rfl, ⟨_, SqL.of (sY _ _ eME)⟩, ?_⟩
          refine comp_list (K := K) (a := M) (xs := bs.map V.ref) (fun k ys σ Y' => ∃ (v0 v1 v2 : Option V), σ = [v0, v1, v2, some (.int (i : Int))] ∧ ys = ((lm.take k).map fun z => decide (i &&& z.2.1 = z.2.2)).map V.bl ∧ Y' = Y) (by rw [List.length_map]; exact Nat.le_trans hb2 (by decide)) ⟨none, none, none, rfl, by simp, rfl⟩ ?_ ?_ ?_
          · rintro k ys σ Y' hk ⟨_, _, _, _, rfl, rfl⟩
            refine ⟨SqL.of (sY _ _ eME), ?_⟩
            rw [List.length_map, List.length_map, List.length_take]; omega
          · rintro k x ys σ Y' hx' ⟨_, _, _, rfl, rfl, rfl⟩
            rw [List.getElem?_map] at hx'
            obtain ⟨a, ha, rfl⟩ := Option.map_eq_some_iff.mp hx'
            obtain ⟨⟨c', x, y⟩, hz⟩ : ∃ z, lm[k]? = some z := ⟨_, List.getElem?_eq_getElem (by have := (List.getElem?_eq_some_iff.mp ha).1; have := hbs.1; omega)⟩
            have ea := (hbsX _ (sE.trans sY)).2 k a _ ha hz
            refine g_tup3 ea ?_
            refine ⟨_, rfl, _, rfl, _, _, rfl, rfl, _, rfl, rfl, _, _, _, rfl, ?_, rfl⟩
            rw [List.take_succ, hz]
            simp only [Option.toList_some, List.map_append, List.map_cons, List.map_nil]
            congr 2
            show V.bl (decide (V.int (Builtin.bitAnd (i : Int) (x : Int)) = V.int (y : Int))) = V.bl (decide (i &&& x = y))
            rw [band]
            congr 1
            by_cases e : i &&& x = y
            · rw [decide_eq_true e, e]; exact decide_eq_true rfl
            · rw [decide_eq_false e]
              exact decide_eq_false fun z => e (by injection z with z; exact Int.ofNat.inj z)
          rintro ys σ Y' ⟨_, _, _, _, rfl, rfl⟩ B hB
          rw [List.length_map, List.take_of_length_le (by rw [hbs.1]; exact Nat.le_refl _)]
          refine ⟨B, _, rfl, SqL.of upd_same, ?_⟩
          have sB := sY.trans (same_new (o := .lst ((lm.map fun z => decide (i &&& z.2.1 = z.2.2)).map V.bl)) hB)
          have efit : ((lm.map fun z => decide (i &&& z.2.1 = z.2.2)).all id = true) ↔ Fits ls c i := by
            rw [fit, List.all_map, List.all_eq_true]
            exact ⟨fun h z hz => of_decide_eq_true (h z hz), fun h z hz => decide_eq_true (h z hz)⟩
          refine ⟨_, rfl, ite2 (fun h2 => ?_) (fun h2 => ?_)⟩
          · have hfw := efit.mp h2
            refine ⟨_, rfl, _, l ++ [i], rfl, by rw [vN_snoc], by simp; omega, .inr ?_, sB⟩
            rcases hh with ⟨rfl, h4⟩ | ⟨h, tl, rfl, h5⟩
            · exact ⟨i, [], rfl, hfw, h4⟩
            · exact ⟨h, tl ++ [i], rfl, h5⟩
          · have hfw : ¬ Fits ls c i := fun z => h2 (efit.mpr z)
            refine ⟨_, l, rfl, rfl, by omega, ?_, sB⟩
            rcases hh with ⟨h3, h4⟩ | h
            · refine .inl ⟨h3, fun w hw => ?_⟩
              rcases (show w < i ∨ w = i by omega) with z | z
              · exact h4 w z
              · rw [z]; exact hfw
            · exact .inr h
        rintro ys σ Y ⟨v0, l, _, rfl, hl, hh, sY⟩ G hG
        obtain ⟨h, tl, rfl, hleast⟩ : ∃ (h : Nat) (tl : List Nat), l = h :: tl ∧ Least ls c h := by
          rcases hh with ⟨_, h4⟩ | h
          · exact absurd hf0 (h4 w0 hw0)
          · exact h
        have sG := (sE.trans sY).trans (same_new (o := .lst (vN (h :: tl))) hG)
        have efG := sG _ _ efa
        refine ⟨_, rfl, .inl ⟨rfl, _, SqL.of efG⟩, _, rfl, _, rfl, G, _, _, _, rfl, rfl, SqL.of upd_same, (atI_nat (j := 0) rfl : atI (vN (h :: tl)) ((0 : Nat) : Int) = _), by show 2 ≤ sizeLine; decide, fun tt htt => ?_⟩
        have st := same_new (o := .tup [.int (c : Int), .int (h : Int)]) htt
        have nttf : tt ≠ fa := fun y => by rw [y, efG] at htt; cases htt
        have hsl : sk.length ≤ 2 := by
          have : sk.length ≤ (List.range 2).length := List.Nodup.length_le_of_subset nd fun y hy => List.mem_range.mpr (by have := ((hmem y).mp hy).1; omega)
          simpa using this
        refine ⟨fa, _, _, rfl, rfl, st _ _ efG, by rw [List.length_map, htl]; exact Nat.lt_of_le_of_lt hsl (by decide), ?_⟩
        have cnot : c ∉ sk := fun y => by have := ((hmem c).mp y).1; omega
        refine ⟨_, _, _, ts ++ [tt], sk ++ [c], fun k => if k = c then .int (h : Int) else g k, rfl, by rw [upd_same, List.map_append]; rfl, by simp [htl], fun j t' c' e1 e2 => ?_, ?_, ?_, fun y => ?_, fun y hy => ?_, fun y o e' => by rw [upd_ne (ne_of_none e' hfa)]; exact st _ _ (sG _ _ (sX _ _ e'))⟩
        · rcases get_snoc e1 with z | ⟨z1, rfl⟩
          · rcases get_snoc e2 with z' | ⟨z1', rfl⟩
            · have hh' := hts j t' c' z z'
              have ne : t' ≠ fa := fun y => by rw [y, efa] at hh'; cases hh'
              have nec : c' ≠ c := fun y => cnot (y ▸ List.mem_of_getElem? z')
              rw [upd_ne ne]
              show _ = some (HO.tup [V.int (c' : Int), if c' = c then V.int (h : Int) else g c'])
              rw [if_neg nec]
              exact st _ _ (sG _ _ hh')
            · have := (List.getElem?_eq_some_iff.mp z).1; omega
          · rcases get_snoc e2 with z' | ⟨z1', rfl⟩
            · have := (List.getElem?_eq_some_iff.mp z').1; omega
            · rw [upd_ne nttf]
              show _ = some (HO.tup [V.int (c' : Int), if c' = c' then V.int (h : Int) else g c'])
              rw [if_pos rfl]; exact upd_same
        · rw [List.nodup_append]
          exact ⟨nd, by simp, fun y hy z hz' e' => cnot (by rw [List.mem_singleton.mp hz'] at e'; rw [← e']; exact hy)⟩
        · exact pw_snoc hsk fun y hy => by have := ((hmem y).mp hy).1; omega
        · rw [List.mem_append, List.mem_singleton, hmem]
          constructor
          · rintro (⟨z1, z2⟩ | rfl)
            · exact ⟨by omega, z2⟩
            · exact ⟨by omega, hcin⟩
          · rintro ⟨z1, z2⟩
            by_cases z : y = c
            · exact .inr z
            · exact .inl ⟨by omega, z2⟩
        · rcases List.mem_append.mp hy with z | z
          · have nec : y ≠ c := fun e' => cnot (e' ▸ z)
            show ∃ w : Nat, (if y = c then V.int (h : Int) else g y) = .int (w : Int) ∧ Least ls y w
            rw [if_neg nec]; exact hg y z
          · rw [List.mem_singleton.mp z]
            show ∃ w : Nat, (if c = c then V.int (h : Int) else g c) = .int (w : Int) ∧ Least ls c w
            rw [if_pos rfl]; exact ⟨h, rfl, hleast⟩
      · have hemp : lm = [] := by
          have := hbs.1
          cases bs with
          | nil => exact List.eq_nil_of_length_eq_zero this.symm
          | cons _ _ => exact absurd rfl h1
        refine ⟨_, _, _, ts, sk, g, rfl, efE, htl, fun j tt c' e1 e2 => stay _ j tt c' sE e1 e2, nd, hsk, fun y => ?_, hg, sX.trans sE⟩
        rw [hmem]
        constructor
        · rintro ⟨z1, z2⟩; exact ⟨by omega, z2⟩
        · rintro ⟨z1, z2⟩
          refine ⟨?_, z2⟩
          rcases (show y < c ∨ y = c by omega) with z | z
          · exact z
          · rw [z] at z2; exact absurd hemp (inl.mp z2)
    · rintro σ X ⟨v2, v3, v4, ts, sk, g, rfl, efa, htl, hts, nd, hsk, hmem, hg, sX⟩
      refine ⟨_, rfl, fa, _, rfl, .inl ⟨SqL.of efa, fun p hp => ?_⟩⟩
      have sp := same_new (o := .tup (ts.map V.ref)) hp
      have small : ∀ c, c ∈ ls.map (·.1) → c < 2 := fun c hc => by
        rw [← hls] at hc
        obtain ⟨z, hz, rfl⟩ := List.mem_map.mp hc
        unfold lats at hz
        rcases List.mem_append.mp hz with y | y
        · cases l1 : r.l with
          | none => rw [l1] at y; cases y
          | some o => rw [l1] at y lsr; have : z = o := by simpa using y
                      subst this; exact lsr.1
        · cases l1 : q.l with
          | none => rw [l1] at y; cases y
          | some o => rw [l1] at y lsq; have : z = o := by simpa using y
                      subst this; exact lsq.1
      obtain ⟨_, hlen2, hlw⟩ := asking_is (o := r.l) (p := q.l) lsr.ok lsq.ok nd hsk (fun c => by rw [hls, hmem]; exact ⟨fun z => z.2, fun z => ⟨small c z, z⟩⟩) (fun c hc => by rw [hls]; exact hg c hc)
      refine k p _ (same_none sX hp) ⟨ts, upd_same, by rw [htl]; exact hlen2, fun j t' q' e1 e2 => ?_⟩ (sX.trans sp)
      obtain ⟨c, hc⟩ : ∃ c, sk[j]? = some c := ⟨_, List.getElem?_eq_getElem (by have := (List.getElem?_eq_some_iff.mp e1).1; omega)⟩
      obtain ⟨h1, h2⟩ := hlw j c q' hc e2
      have e3 := hts j t' c e1 hc
      rw [h2, ← h1] at e3
      exact sp _ _ e3
end
abbrev s_law_first : Stmt := top 23
theorem sc_law_first : FnScope ["rows", "many", "address", "pairs", "turn", "on", "k", "first", "second"] ["rows", "many"] (defScope s_law_first) := ⟨rfl, rfl, rfl, by decide +kernel, rfl, by decide +kernel, by decide +kernel⟩
section
variable {P : Program} {w : World} {K : PySem.W.Frag} {mg : Str → Option Value} {base : Heap}
theorem ok_law_first {f : Addr} {fd : FuncData} (F : Fun K "_law_first" "_law_first" s_law_first f fd) (T : Blt mg) (G_law_answer : Cal P w K mg base 1 "_law_answer" ["rows", "address", "words"] spAnsL) (G_law_least : Cal P w K mg base 1 "_law_least" ["rows"] spLeast13) : FnOk P w K mg base CX0 2 f fd ["rows", "many"] spFirst := by
  refine F.ok sc_law_first (fun vs H Q E h => ?_) (fun cdv A outer s H vs Q E hr h => ?_)
  · obtain ⟨p, m, ws, rfl, _⟩ := h; rfl
  · obtain ⟨p, m, ws, rfl, hm, eP, hwl, hall, kn, ks⟩ := h
    refine' ⟨_, (pss_cons (ps_for PassesOwn.never rfl (pi_range1 rfl T.range (pa_cons (pv 1) pa_nil)) (pg_name (i := 2) sc_law_first.nd rfl (Or.inl rfl))
      (pss_cons (ps_set (i := 3) sc_law_first.nd rfl (Or.inl rfl) (pe_lst pa_nil))
      (pss_cons (ps_for PassesOwn.never rfl (pi_range1 rfl T.range (pa_cons pe_int pa_nil)) (pg_name (i := 4) sc_law_first.nd rfl (Or.inl rfl))
      (pss_cons (ps_set (i := 5) sc_law_first.nd rfl (Or.inr rfl) (pe_cal G_law_answer (hr.mono (by first | decide | omega)) rfl (pa_cons (pv 0) (pa_cons (pv 2) (pa_cons (pe_disp (pps_cons pe_int (pe_op op_mod (pv 4) pe_int) (pps_cons pe_int (pe_op op_fdivB (pv 4) pe_int) pps_nil)) rfl rfl (by simp) (by decide)) pa_nil)))))
      (pss_one (ps_for PassesOwn.never rfl (pi_range1 rfl T.range (pa_cons (pe_callB call_len_seq (by rfl) T.len PySem.boot_len (pa_cons (pv 5) pa_nil)) pa_nil)) (pg_name (i := 6) sc_law_first.nd rfl (Or.inr rfl))
      (pss_one (ps_expr (pe_bm PySem.F.plainAttrs_list PySem.F.slot_list_extend PySem.F.type_list_extend mt_extend (pv 3) (pa_cons ?c1 pa_nil))))))))
      (pss_one (ps_if (pt_cmpR (op_neL0 (Nat.lt_of_succ_lt (hu_of hr)) (K := K) rfl) (pv 3) (pe_lst pa_nil) (nomark _)) (pss_cons (ps_asg (pe_callB (call_minT rfl (hu_of hr)) (by rfl) T.min PyProof.Rows.boot_min (pa_cons (pv 3) pa_nil)) (pg_tup rfl (pgs_cons (pg_name (i := 7) sc_law_first.nd rfl (Or.inl rfl)) (pgs_cons (pg_name (i := 8) sc_law_first.nd rfl (Or.inl rfl)) pgs_nil))))
      (pss_one (ps_ret (pe_tup (pa_cons (pv 2) (pa_cons (pv 7) (pa_cons (pv 8) (pa_cons (pe_cal G_law_least (hr.mono (by first | decide | omega)) rfl (pa_cons (pe_lst (pa_cons (pe_ix ix_tup (pv 0) (pv 7) (fun _ _ => rfl)) (pa_cons (pe_ix ix_tup (pv 0) (pv 8) (fun _ _ => rfl)) pa_nil))) pa_nil)) pa_nil)))))))) pss_nil)))))
      (pss_one (ps_ret pe_non))), ?rd⟩
    (case c1 => exact (pe_comp (Nc := ["other", "on", "k"]) [none, some 5, some 6] rfl (compOk_of (by rfl)) (pi_list (pe_slice sl_list (pv 5) (po_some (pe_op op_add (pv 6) pe_int)) po_none)) (fun _ _ _ _ _ => (pg_name (i := 0) (show (["other", "on", "k"] : List Str).Nodup by decide +kernel) rfl (Or.inl rfl))) (fun _ _ _ _ _ => pf_nil) (fun _ _ _ _ _ => (pe_tup (pa_cons (pe_ix (ix_listE (K := K) rfl) (pv 1) (pv 2) (fun _ _ => rfl)) (pa_cons (pv 0) pa_nil))))))
    have hpw : 2 ^ m ≤ 16 := by
      rcases (show m = 0 ∨ m = 1 ∨ m = 2 ∨ m = 3 ∨ m = 4 by omega) with rfl | rfl | rfl | rfl | rfl <;> decide
    generalize hrs : ws.map (·.2) = rs at kn ks
    have hrl : rs.length = ws.length := by rw [← hrs, List.length_map]
    have hok : ∀ r ∈ rs, RwOk m r ∧ LatS r.l := fun r hr' => by
      rw [← hrs] at hr'
      obtain ⟨z, hz, rfl⟩ := List.mem_map.mp hr'
      exact (hall z hz).2
    have hz16 : (16 : Nat) ≤ sizeLine := by decide
    generalize hN : 2 ^ m = N at hpw
    refine ⟨_, rfl, _, rfl, by omega, by omega, ?_⟩
    refine for_range (n := N) (fun x σ X => ∃ (v2 v3 v4 v5 v6 v7 v8 : Option V), σ = [some (.ref p), some (.int (N : Int)), v2, v3, v4, v5, v6, v7, v8] ∧ (∀ y, y < x → ∀ k l, ¬ pr13 rs y k l) ∧ Same H X)
      ⟨_, _, _, _, _, _, _, rfl, (fun y hy => absurd hy (Nat.not_lt_zero _)), Same.refl _⟩ ?_ ?_
    · rintro x σ X hx ⟨v2, v3, v4, v5, v6, v7, v8, rfl, hno, sX⟩
      rw [show (0 : Int) + (x : Int) = (x : Int) from Int.zero_add _]
      refine ⟨by show 0 ≤ sizeLine; decide, fun PA hPA => ?_⟩
      have sP := same_new (o := .lst []) hPA
      have nPA := same_none sX hPA
      refine ⟨16, rfl, by decide, by decide, ?_⟩
      refine for_range (n := 16) (fun t σ Y => ∃ (v4 v5 v6 v7 v8 : Option V) (ts : List Addr) (prs : List (Nat × Nat)), σ = [some (.ref p), some (.int (N : Int)), some (.int (x : Int)), some (.ref PA), v4, v5, v6, v7, v8] ∧ Y PA = some (.lst (ts.map V.ref)) ∧ FndAt Y ts (prs.map pr2) ∧ Snd rs x prs ∧ Cmp rs x t prs ∧ prs.length ≤ 100 * t ∧ Same H Y)
        ⟨_, _, _, _, _, [], [], rfl, upd_same, ⟨rfl, fun i t ns e => by simp at e⟩, (fun q hq => nomatch hq), (fun t ht => absurd ht (Nat.not_lt_zero _)), Nat.zero_le _, sX.trans sP⟩ ?_ ?_
      · rintro t σ Y ht ⟨v4, v5, v6, v7, v8, ts, prs, rfl, ePA, hF, hsnd, hcmp, hlen, sY⟩
        rw [show (0 : Int) + (t : Int) = (t : Int) from Int.zero_add _]
        refine ⟨_, rfl, _, rfl, fun d hd => ⟨_, rfl, _, _, rfl, rfl, (show (0 : Int) < 4 by decide), _, rfl, _, _, rfl, rfl, (show (0 : Int) < 4 ∧ (4 : Int).natAbs.log2 < 9000 by decide), upd_same, [((Sum.inl 0 : Key), V.int ((t : Int) % 4)), ((Sum.inl 1 : Key), V.int ((t : Int) / 4))], rfl, (show 2 ≤ 15 by decide), ?_⟩⟩
        have sD1 : Same Y (upd (upd Y d (.dK [])) d (.dK (mergeK [] [((Sum.inl 0 : Key), V.int ((t : Int) % 4)), ((Sum.inl 1 : Key), V.int ((t : Int) / 4))]))) := fun b o e => by
          rw [upd_ne (ne_of_none e hd), upd_ne (ne_of_none e hd)]; exact e
        have sD := sY.trans sD1
        refine ⟨p, d, 0, x, t % 4, t / 4, ws, rfl, sD _ _ eP, hwl, fun z hz => ⟨(hall z hz).1.same sD, (hall z hz).2.2⟩, ?_, fun l Z hl el sl => ?_⟩
        · rw [upd_same, show (t : Int) % 4 = ((t % 4 : Nat) : Int) by omega, show (t : Int) / 4 = ((t / 4 : Nat) : Int) by omega, disp_is]
        rw [hrs, ← hrl] at el
        have el : Z l = some (.lst (vN (An rs x t))) := el
        have sYZ := sD1.trans sl
        have sZ := sY.trans sYZ
        have hAl : (An rs x t).length ≤ 10 := Nat.le_trans (ansL_len _ _ _ _) (by omega)
        refine ⟨_, rfl, l, _, rfl, .inl (SqL.of el), _, rfl, by rw [vN_length]; omega, by rw [vN_length]; omega, ?_⟩
        rw [vN_length]
        have lPA : l ≠ PA := fun y => by
          have := sD1 _ _ ePA
          rw [← y, hl] at this; cases this
        refine for_range (n := (An rs x t).length) (fun k σ Y => ∃ (v6 v7 v8 : Option V) (ts : List Addr) (prs : List (Nat × Nat)), σ = [some (.ref p), some (.int (N : Int)), some (.int (x : Int)), some (.ref PA), some (.int (t : Int)), some (.ref l), v6, v7, v8] ∧ Y PA = some (.lst (ts.map V.ref)) ∧ Y l = some (.lst (vN (An rs x t))) ∧ FndAt Y ts (prs.map pr2) ∧ Snd rs x prs ∧ Cmp rs x t prs ∧ (∀ k', k' < k → ∀ l' v u, k' < l' → (An rs x t)[k']? = some v → (An rs x t)[l']? = some u → (v, u) ∈ prs) ∧ prs.length ≤ 100 * t + 10 * k ∧ Same H Y)
          ⟨_, _, _, ts, prs, rfl, sYZ _ _ ePA, el, hF.same sYZ, hsnd, hcmp, (fun k' hk' => absurd hk' (Nat.not_lt_zero _)), by omega, sZ⟩ ?_ ?_
        · clear hF hsnd hcmp hlen ePA ts prs
          rintro k σ Y hk ⟨v6, v7, v8, ts, prs, rfl, ePA, el, hF, hsnd, hcmp, hkk, hlen, sY⟩
          rw [show (0 : Int) + (k : Int) = (k : Int) from Int.zero_add _]
          obtain ⟨v, hv⟩ : ∃ v, (An rs x t)[k]? = some v := ⟨_, List.getElem?_eq_getElem hk⟩
          refine ⟨_, rfl, .inl ⟨rfl, _, SqL.of ePA⟩, _, rfl, _, rfl, _, _, rfl, rfl, _, rfl, l, _, rfl, SqL.of el, fun S hS => ?_⟩
          have ecut : cutV (vN (An rs x t)) (some ((k : Int) + 1)) none = vN ((An rs x t).drop (k + 1)) := by
            rw [show (k : Int) + 1 = ((k + 1 : Nat) : Int) by omega, cut_drop (by rw [vN_length]; omega)]
            unfold vN; rw [List.map_drop]
          rw [ecut]
          have sS := same_new (o := .lst (vN ((An rs x t).drop (k + 1)))) hS
          refine ⟨S, rfl, ⟨_, SqL.of upd_same⟩, ?_⟩
          have hdl : ((An rs x t).drop (k + 1)).length ≤ 10 := by rw [List.length_drop]; omega
          refine comp_list (K := K) (a := S) (xs := vN ((An rs x t).drop (k + 1))) (fun i ys σ Z => ∃ (v0 : Option V) (us : List Addr), σ = [v0, some (.ref l), some (.int (k : Int))] ∧ ys = us.map V.ref ∧ FndAt Z us (((((An rs x t).drop (k + 1)).take i).map fun u => (v, u)).map pr2) ∧ us.length ≤ i ∧ Same (upd Y S (.lst (vN ((An rs x t).drop (k + 1))))) Z) (by rw [vN_length]; omega) ⟨none, [], rfl, rfl, ⟨by simp, fun i t ns e => by simp at e⟩, Nat.le_refl _, Same.refl _⟩ ?_ ?_ ?_
          · rintro i ys σ Z hi ⟨v0, us, _, rfl, _, hul, sZ⟩
            exact ⟨SqL.of (sZ _ _ upd_same), by rw [List.length_map]; exact hul⟩
          · rintro i y ys σ Z hy ⟨v0, us, rfl, rfl, hU, hul, sZ⟩
            obtain ⟨u, hu, rfl⟩ := vN_get hy
            refine ⟨_, rfl, _, rfl, l, _, _, _, rfl, rfl, SqL.of (sZ _ _ (sS _ _ el)), atI_nat (vN_at' hv), _, rfl, by show 2 ≤ sizeLine; decide, fun tt htt => ?_⟩
            have st := same_new (o := .tup [.int (v : Int), .int (u : Int)]) htt
            refine ⟨_, us ++ [tt], rfl, by rw [List.map_append]; rfl, ?_, by simp; omega, sZ.trans st⟩
            rw [List.take_succ, hu]
            simp only [Option.toList_some, List.map_append, List.map_cons, List.map_nil]
            exact (hU.same st).snoc (X := H) upd_same
          rintro ys σ Z ⟨v0, us, _, rfl, hU, hul, sZ⟩ D hD
          rw [vN_length] at hU hul
          rw [List.take_of_length_le (Nat.le_refl _)] at hU
          have hU : FndAt Z us ((kPr (An rs x t) k v).map pr2) := hU
          have sDn := same_new (o := .lst (us.map V.ref)) hD
          have sYD := (sS.trans sZ).trans sDn
          have ePD := sYD _ _ ePA
          have htl := hF.1
          rw [List.length_map] at htl
          refine ⟨PA, D, _, _, rfl, rfl, ePD, upd_same, by rw [List.length_map, List.length_map]; exact Nat.le_trans (show ts.length + us.length ≤ 2000 by omega) (by decide), ?_⟩
          have nfa : ∀ (t' : Addr) (ns : List V) (G : Hp) (zs : List V), G PA = some (.lst zs) → G t' = some (.tup ns) → t' ≠ PA := fun t' ns G zs e1 e2 y => by rw [y, e1] at e2; cases e2
          refine ⟨_, _, _, ts ++ us, prs ++ kPr (An rs x t) k v, rfl, by rw [upd_same, List.map_append], by rw [upd_ne lPA]; exact sYD _ _ el, ?_, ?_, ?_, ?_, ?_, fun b o e => by rw [upd_ne (ne_of_none e nPA)]; exact sYD _ _ (sY _ _ e)⟩
          · rw [List.map_append]
            refine FndAt.app ⟨hF.1, fun i t' ns e1 e2 => ?_⟩ ⟨hU.1, fun i t' ns e1 e2 => ?_⟩
            · have h9 := hF.2 i t' ns e1 e2
              rw [upd_ne (nfa t' _ _ _ ePA h9)]
              exact sYD _ _ h9
            · have h9 := hU.2 i t' ns e1 e2
              rw [upd_ne (nfa t' _ _ _ ((sS.trans sZ) _ _ ePA) h9)]
              exact sDn _ _ h9
          · intro q hq
            rcases List.mem_append.mp hq with z | z
            · exact hsnd q z
            · exact kPr_snd hv q z
          · exact fun t' ht' i j hij h1 h2 => List.mem_append_left _ (hcmp t' ht' i j hij h1 h2)
          · intro k' hk' l' v' u hl' h1 h2
            rcases (show k' < k ∨ k' = k by omega) with z | z
            · exact List.mem_append_left _ (hkk k' z l' v' u hl' h1 h2)
            · subst z
              rw [hv] at h1; cases h1
              exact List.mem_append_right _ (kPr_mem h2 hl')
          · rw [List.length_append]
            have := kPr_len (An rs x t) k v
            omega
        · clear hF hsnd hcmp hlen ePA ts prs
          rintro σ Y ⟨v6, v7, v8, ts, prs, rfl, ePA, el, hF, hsnd, hcmp, hkk, hlen, sY⟩
          refine ⟨_, _, _, _, _, ts, prs, rfl, ePA, hF, hsnd, fun t' ht' i j hij h1 h2 => ?_, by omega, sY⟩
          rcases (show t' < t ∨ t' = t by omega) with z | z
          · exact hcmp t' z i j hij h1 h2
          · subst z
            obtain ⟨k', e1⟩ := List.mem_iff_getElem?.mp h1
            obtain ⟨l', e2⟩ := List.mem_iff_getElem?.mp h2
            exact hkk k' (List.getElem?_eq_some_iff.mp e1).1 l' i j (An_gt e1 e2 hij) e1 e2
      · rintro σ Y ⟨v4, v5, v6, v7, v8, ts, prs, rfl, ePA, hF, hsnd, hcmp, hlen, sY⟩
        refine ⟨_, rfl, by show 0 ≤ sizeLine; decide, fun e he => ⟨PA, e, _, rfl, rfl, SqL.of (same_new he _ _ ePA), SqL.of upd_same, _, rfl, ?_⟩⟩
        have sE1 := same_new (o := .lst []) he
        have sE := sY.trans sE1
        have hlat : ∀ r ∈ rs, LatS r.l := fun r hr' => (hok r hr').2
        refine ite2 (fun h1 => ?_) (fun h1 => ?_)
        · have hpos : 0 < ts.length := by
            cases ts with
            | nil => cases h1
            | cons _ _ => simp
          have hfl := hF.1
          refine ⟨_, rfl, PA, ts, prs.map pr2, rfl, sE1 _ _ ePA, hpos, hfl, (hF.same sE1).2, fun t ht => ?_⟩
          rw [hfl] at ht
          obtain ⟨ns, hns⟩ : ∃ ns, (prs.map pr2)[PySem.argBest (fun i j => HT.lexLt ((prs.map pr2).getD i []) ((prs.map pr2).getD j [])) ((prs.map pr2).length - 1)]? = some ns := ⟨_, List.getElem?_eq_getElem (by have := (List.getElem?_eq_some_iff.mp ht).1; omega)⟩
          have et := (hF.same sE1).2 _ t ns ht hns
          obtain ⟨i, j, rfl, hin, hmin⟩ := best_pair hns
          have hp13 := hsnd _ hin
          have hdue : IsDue rs x i j := first_due (fun r hr' => (hok r hr').1) hp13 hno fun k l hk => hmin (k, l) (cmp_all hlat hcmp hk)
          obtain ⟨hij, r, q, hr', hq', hcl, _, _⟩ := id hp13
          have hr' : rs[i]? = some r := hr'
          have hq' : rs[j]? = some q := hq'
          have wat : ∀ (i : Nat) (r : Rw), rs[i]? = some r → ∃ a : Addr, (refs ws)[i]? = some (V.ref a) ∧ RwAt H a r ∧ LatS r.l := fun i r e => by
            rw [← hrs, List.getElem?_map] at e
            obtain ⟨z, hz, rfl⟩ := Option.map_eq_some_iff.mp e
            exact ⟨z.1, refs_at hz, (hall z (List.mem_of_getElem? hz)).1, (hall z (List.mem_of_getElem? hz)).2.2⟩
          obtain ⟨a, ha, rwa, la⟩ := wat i r hr'
          obtain ⟨b, hb, rwb, lb⟩ := wat j q hq'
          refine ⟨t, [.int (i : Int), .int (j : Int)], rfl, SqT.of et, rfl, _, _, rfl, _, _, rfl, rfl, ?_⟩
          have eP' := sE _ _ eP
          refine ⟨_, rfl, _, rfl, _, rfl, _, rfl, _, rfl, p, _, _, V.ref a, rfl, rfl, SqT.of eP', atI_nat ha, _, rfl, _, rfl, p, _, _, V.ref b, rfl, rfl, SqT.of eP', atI_nat hb, by show 2 ≤ sizeLine; decide, fun L hL => ?_⟩
          have sL := sE.trans (same_new (o := .lst [.ref a, .ref b]) hL)
          refine ⟨L, a, b, r, q, rfl, upd_same, rwa.same sL, rwb.same sL, la, lb, (clash_parts.mp hcl).2, fun wp Z hwp hpr sZ => ?_⟩
          refine ⟨by show 4 ≤ sizeLine; decide, fun tp htp => ?_⟩
          have sT := same_new (o := .tup [.int (x : Int), .int (i : Int), .int (j : Int), .ref wp]) htp
          exact ks x i j r q hdue hr' hq' tp wp _ upd_same (hpr.same sT) ((sL.trans sZ).trans sT)
        · have hemp : prs = [] := by
            have := hF.1
            cases ts with
            | nil => rw [List.length_map] at this; exact List.eq_nil_of_length_eq_zero this.symm
            | cons _ _ => exact absurd rfl h1
          refine ⟨_, _, _, _, _, _, _, rfl, fun y hy k l hk => ?_, sE⟩
          rcases (show y < x ∨ y = x by omega) with z | z
          · exact hno y z k l hk
          · subst z
            have := cmp_all hlat hcmp hk
            rw [hemp] at this; cases this
    · rintro σ X ⟨v2, v3, v4, v5, v6, v7, v8, rfl, hno, sX⟩
      refine kn (no_due (m := m) (fun r hr' => (hok r hr').1) (by rw [hN]; exact hno)) X sX
end
abbrev s_law_right : Stmt := top 24
theorem sc_law_right : FnScope ["feed", "bits", "many", "rows", "due", "turn", "words", "on", "holes"] ["feed"] (defScope s_law_right) := ⟨rfl, rfl, rfl, by decide +kernel, rfl, by decide +kernel, by decide +kernel⟩
section
variable {P : Program} {w : World} {K : PySem.W.Frag} {mg : Str → Option Value} {base : Heap}
theorem PrsAt.eqv {K : PySem.W.Frag} {H : Hp} {a b : Addr} {l : List (Int × Int)} (h : PrsAt H a l) (g : PrsAt H b l) : Eqv K H 8 (.ref a) (.ref b) := by
  obtain ⟨ts, e, hl, ht⟩ := h
  obtain ⟨us, e', hl', ht'⟩ := g
  refine .tup (SqT.of e) (SqT.of e') (by rw [List.length_map, List.length_map]; omega) fun i x y ex ey => ?_
  rw [List.getElem?_map] at ex ey
  obtain ⟨t, h1, rfl⟩ := Option.map_eq_some_iff.mp ex
  obtain ⟨u, h2, rfl⟩ := Option.map_eq_some_iff.mp ey
  obtain ⟨q, hq⟩ : ∃ q, l[i]? = some q := ⟨_, List.getElem?_eq_getElem (by have := (List.getElem?_eq_some_iff.mp h1).1; omega)⟩
  refine .tup (SqT.of (ht i t q h1 hq)) (SqT.of (ht' i u q h2 hq)) rfl fun j x y ex ey => ?_
  rw [ex] at ey
  cases ey
  rcases (show j = 0 ∨ j = 1 by have := (List.getElem?_eq_some_iff.mp ex).1; simp at this; omega) with rfl | rfl
  · cases ex; exact .int _ _
  · cases ex; exact .int _ _
theorem agr_symm (m w n v : Nat) : agr m w n v = agr n v m w := by
  unfold agr; rw [Nat.xor_comm w v, Nat.and_assoc, Nat.and_comm m n, ← Nat.and_assoc]
theorem latA_symm : ∀ (o p : Option (Nat × Nat × Nat)), latA o p = latA p o
  | none, none => rfl
  | none, some (_, _, _) => rfl
  | some (_, _, _), none => rfl
  | some (c, u, v), some (d, u', v') => by
    show (if c = d then agr u v u' v' else true) = (if d = c then agr u' v' u v else true)
    by_cases e : c = d
    · rw [if_pos e, if_pos e.symm, agr_symm]
    · rw [if_neg e, if_neg (Ne.symm e)]
theorem clash_symm (r q : Rw) : clash r q = clash q r := by unfold clash; rw [agr_symm, latA_symm]
theorem nc_pair {ws : List (Addr × Rw)} (h : ws.Pairwise fun a b => clash a.2 b.2 = false) : ws.Pairwise fun a b => NC a.2 b.2 := h.imp fun h => ⟨h, by rw [clash_symm]; exact h⟩
def hd0 (l : List Nat) : V := match l with
  | [] => .non
  | i :: _ => .int (i : Int)
theorem hd0_kind (l : List Nat) : hd0 l = .non ∨ ∃ i : Int, hd0 l = .int i := by
  cases l with
  | nil => exact .inl rfl
  | cons i _ => exact .inr ⟨_, rfl⟩
theorem hd0_at (l : List Nat) : (vN l ++ [V.non])[0]? = some (hd0 l) := by cases l <;> rfl
theorem fst_hd (rs : List Rw) (x : Nat) (W : Nat → Nat) : fstA rs x W = hd0 (ansL rs x W rs.length) := by
  unfold fstA
  cases e : rs.findIdx? (fun r => ans r x W) with
  | none =>
    have : ansL rs x W rs.length = [] := by
      rw [List.eq_nil_iff_forall_not_mem]
      intro k hk
      obtain ⟨_, r, e1, e2⟩ := ansL_mem.mp hk
      have := List.findIdx?_eq_none_iff.mp e r (List.mem_of_getElem? e1)
      rw [e2] at this; cases this
    rw [this]; rfl
  | some i =>
    obtain ⟨hi, h1, h2⟩ := List.findIdx?_eq_some_iff_getElem.mp e
    have hm : i ∈ ansL rs x W rs.length := ansL_mem.mpr ⟨hi, rs[i], List.getElem?_eq_getElem hi, h1⟩
    cases hl : ansL rs x W rs.length with
    | nil => rw [hl] at hm; cases hm
    | cons h tl =>
      have hs := ansL_sorted rs x W rs.length
      have hh : h ∈ ansL rs x W rs.length := by rw [hl]; exact List.mem_cons_self
      rw [hl] at hm hs
      obtain ⟨hb, r, e1, e2⟩ := ansL_mem.mp hh
      have : h = i := by
        rcases List.mem_cons.mp hm with z | z
        · exact z.symm
        · have lt := (List.pairwise_cons.mp hs).1 i z
          obtain ⟨a1, rfl⟩ := List.getElem?_eq_some_iff.mp e1
          exact absurd e2 (h2 h lt)
      rw [this]; rfl
def hls (rs : List Rw) (t n : Nat) : List Nat := (List.range n).filter fun y => decide (An rs y t = [])
theorem hls_succ (rs : List Rw) (t n : Nat) : hls rs t (n + 1) = hls rs t n ++ (if An rs n t = [] then [n] else []) := by
  unfold hls
  rw [List.range_succ, List.filter_append]
  congr 1
  by_cases e : An rs n t = []
  · simp [e]
  · simp [e]
theorem hls_len (rs : List Rw) (t n : Nat) : (hls rs t n).length ≤ n := Nat.le_trans (List.length_filter_le _ _) (by rw [List.length_range]; exact Nat.le_refl _)
theorem hole_is {ws : List (Addr × Rw)} {rs : List Rw} (hrs : ws.map (·.2) = rs) (x t : Nat) : isHole (awks ws (wrd [0, 1] (w2 (t % 4) (t / 4)))) x = decide (An rs x t = []) := by
  rw [Bool.eq_iff_iff, decide_eq_true_iff]
  unfold isHole awks
  rw [List.all_eq_true]
  constructor
  · intro h
    rw [List.eq_nil_iff_forall_not_mem]
    intro k hk
    obtain ⟨_, r, e1, e2⟩ := ansL_mem.mp hk
    unfold ans at e2
    rw [Bool.and_eq_true] at e2
    rw [← hrs, List.getElem?_map] at e1
    obtain ⟨z, hz, rfl⟩ := Option.map_eq_some_iff.mp e1
    have := h z.2 (List.mem_map.mpr ⟨z, List.mem_filter.mpr ⟨List.mem_of_getElem? hz, e2.2⟩, rfl⟩)
    rw [e2.1] at this; cases this
  · intro h r hr
    obtain ⟨z, hz, rfl⟩ := List.mem_map.mp hr
    obtain ⟨h1, h2⟩ := List.mem_filter.mp hz
    cases hm : met z.2 x with
    | false => rfl
    | true =>
      obtain ⟨k, hk⟩ := List.mem_iff_getElem?.mp h1
      have : k ∈ An rs x t := ansL_mem.mpr ⟨by rw [← hrs, List.length_map]; exact (List.getElem?_eq_some_iff.mp hk).1, z.2, by rw [← hrs, List.getElem?_map, hk]; rfl, by unfold ans; rw [hm, h2]; rfl⟩
      rw [h] at this; cases this
theorem hol_is {ws : List (Addr × Rw)} {rs : List Rw} (hrs : ws.map (·.2) = rs) (n t : Nat) : hol (awks ws (wrd [0, 1] (w2 (t % 4) (t / 4)))) 0 n = (hls rs t n).length := by
  unfold hol hls
  rw [List.countP_eq_length_filter]
  congr 1
  refine List.filter_congr fun k _ => ?_
  rw [Nat.zero_add]
  exact hole_is hrs k t
theorem hls_head {rs : List Rw} {t n h : Nat} {tl : List Nat} (e : hls rs t n = h :: tl) : h < n ∧ An rs h t = [] ∧ hls rs t h = [] := by
  have hm : h ∈ hls rs t n := by rw [e]; exact List.mem_cons_self
  obtain ⟨h1, h2⟩ := List.mem_filter.mp hm
  have h1 := List.mem_range.mp h1
  refine ⟨h1, of_decide_eq_true h2, ?_⟩
  rw [List.eq_nil_iff_forall_not_mem]
  intro k hk
  obtain ⟨k1, k2⟩ := List.mem_filter.mp hk
  have k1 := List.mem_range.mp k1
  have : k ∈ hls rs t n := List.mem_filter.mpr ⟨List.mem_range.mpr (by omega), k2⟩
  have hs : (hls rs t n).Pairwise (· < ·) := List.Pairwise.filter _ List.pairwise_lt_range
  rw [e] at this hs
  rcases List.mem_cons.mp this with z | z
  · omega
  · have := (List.pairwise_cons.mp hs).1 k z
    omega
theorem ok_law_right {f : Addr} {fd : FuncData} (F : Fun K "_law_right" "_law_right" s_law_right f fd) (T : Blt mg) (G_law_pick : Cal P w K mg base 1 "_law_pick" ["feed", "many"] spPick) (G_law_row : Cal P w K mg base 2 "_law_row" ["feed", "bits"] spRow13) (G_law_first : Cal P w K mg base 2 "_law_first" ["rows", "many"] spFirst) (Gclash_of : Cal P w K mg base 4 "clash_of" ["rows"] spClashOf) (G_law_answer : Cal P w K mg base 1 "_law_answer" ["rows", "address", "words"] spAnsL) (Ganswering : Cal P w K mg base 2 "answering" ["rows", "address", "words"] spAnsw) (Gunanswered : Cal P w K mg base 4 "unanswered" ["bits", "rows", "words"] spUnansw) (Gleast_hole : Cal P w K mg base 4 "least_hole" ["bits", "rows", "words"] spLeastH) : FnOk P w K mg base CX0 6 f fd ["feed"] spRight := by
  refine F.ok sc_law_right (fun vs H Q E h => ?_) (fun cdv A outer s H vs Q E hr h => ?_)
  · obtain ⟨p, rfl, _⟩ := h; rfl
  · obtain ⟨p, rfl, hF, k⟩ := h
    refine' ⟨_, (pss_cons (ps_set (i := 1) sc_law_right.nd rfl (Or.inr rfl) (pe_op op_add pe_int (pe_cal G_law_pick (hr.mono (by first | decide | omega)) rfl (pa_cons (pv 0) (pa_cons pe_int pa_nil)))))
      (pss_cons (ps_set (i := 2) sc_law_right.nd rfl (Or.inl rfl) (pe_ix ix_list (pe_lst (pa_cons pe_int (pa_cons pe_int (pa_cons pe_int (pa_cons pe_int pa_nil))))) (pe_op op_sub (pv 1) pe_int) (fun _ _ => rfl)))
      (pss_cons (ps_set (i := 3) sc_law_right.nd rfl (Or.inr rfl) (pe_callTy call_tuple_of (by rfl) T.tuple bt_tuple (pa_cons ?c4 pa_nil)))
      (pss_cons (ps_set (i := 4) sc_law_right.nd rfl (Or.inl rfl) (pe_cal G_law_first (hr.mono (by first | decide | omega)) rfl (pa_cons (pv 3) (pa_cons (pv 2) pa_nil))))
      (pss_cons (ps_if (pt_cmpR (op_neNT (hu9_of hr) (K := K) rfl) (pe_cal Gclash_of (hr.mono (by first | decide | omega)) rfl (pa_cons (pv 3) pa_nil)) (pv 4) (nomark _)) (pss_one (ps_ret pe_bl)) pss_nil)
      (pss_cons (ps_if (pt_cmp (pc_notN (pv 4))) (pss_one (ps_ret pe_bl)) pss_nil)
      (pss_cons (ps_for PassesOwn.never rfl (pi_range1 rfl T.range (pa_cons pe_int pa_nil)) (pg_name (i := 5) sc_law_right.nd rfl (Or.inl rfl))
      (pss_cons (ps_set (i := 6) sc_law_right.nd rfl (Or.inr rfl) (pe_disp (pps_cons pe_int (pe_op op_mod (pv 5) pe_int) (pps_cons pe_int (pe_op op_fdivB (pv 5) pe_int) pps_nil)) rfl rfl (by simp) (by decide)))
      (pss_cons (ps_set (i := 7) sc_law_right.nd rfl (Or.inr rfl) ?c3)
      (pss_cons (ps_setComp (i := 8) (Nc := ["address", "on"]) [none, some 7] sc_law_right.nd rfl rfl rfl (compOk_of (by rfl)) (pi_range1 rfl T.range (pa_cons (pv 2) pa_nil)) (fun _ _ _ _ _ => (pg_name (i := 0) (show (["address", "on"] : List Str).Nodup by decide +kernel) rfl (Or.inl rfl))) (fun _ _ _ _ _ => (pf_one (pt_cmpR (op_eqL0 (Nat.lt_of_succ_lt (hu_of hr)) (K := K) rfl) (pe_ix (ix_listE (K := K) rfl) (pv 1) (pv 0) (fun _ _ => rfl)) (pe_lst pa_nil) (nomark _)))) (fun _ _ _ _ _ => (pv 0)))
      (pss_cons (ps_if (pt_cmpR (op_neLS (Nat.lt_of_succ_lt (hu_of hr)) (K := K) rfl) ?c1 ?c2 (nomark _)) (pss_one (ps_ret pe_bl)) pss_nil)
      (pss_one (ps_if (PW.pt (pw_or (pt_cmpR op_ne (pe_cal Gunanswered (hr.mono (by first | decide | omega)) rfl (pa_cons (pv 1) (pa_cons (pv 3) (pa_cons (pv 6) pa_nil)))) (pe_callB call_len_seq (by rfl) T.len PySem.boot_len (pa_cons (pv 8) pa_nil)) (nomark _)) (pw_or1 (pt_cmpR op_ne (pe_cal Gleast_hole (hr.mono (by first | decide | omega)) rfl (pa_cons (pv 1) (pa_cons (pv 3) (pa_cons (pv 6) pa_nil)))) (pe_ix ix_list (pe_op op_catS (pv 8) (pe_lst (pa_cons pe_non pa_nil))) pe_int (fun _ _ => rfl)) (nomark _))))) (pss_one (ps_ret pe_bl)) pss_nil)))))))
      (pss_one (ps_ret pe_bl))))))))), ?rd⟩
    (case c1 => exact (pe_comp (Nc := ["address", "rows", "words"]) [none, some 3, some 6] rfl (compOk_of (by rfl)) (pi_range1 rfl T.range (pa_cons (pv 2) pa_nil)) (fun _ _ _ _ _ => (pg_name (i := 0) (show (["address", "rows", "words"] : List Str).Nodup by decide +kernel) rfl (Or.inl rfl))) (fun _ _ _ _ _ => pf_nil) (fun _ _ _ _ _ => (pe_cal Ganswering (hr.mono (by first | decide | omega)) rfl (pa_cons (pv 1) (pa_cons (pv 0) (pa_cons (pv 2) pa_nil)))))))
    (case c2 => exact (pe_comp (Nc := ["one"]) [none] rfl (compOk_of (by rfl)) (pi_list (pv 7)) (fun _ _ _ _ _ => (pg_name (i := 0) (show (["one"] : List Str).Nodup by decide +kernel) rfl (Or.inl rfl))) (fun _ _ _ _ _ => pf_nil) (fun _ _ _ _ _ => (pe_ix (ix_listE (K := K) rfl) (pe_op (op_catSE (K := K) rfl) (pv 0) (pe_lst (pa_cons pe_non pa_nil))) pe_int (fun _ _ => rfl)))))
    (case c3 => exact (pe_comp (Nc := ["address", "rows", "words"]) [none, some 3, some 6] rfl (compOk_of (by rfl)) (pi_range1 rfl T.range (pa_cons (pv 2) pa_nil)) (fun _ _ _ _ _ => (pg_name (i := 0) (show (["address", "rows", "words"] : List Str).Nodup by decide +kernel) rfl (Or.inl rfl))) (fun _ _ _ _ _ => pf_nil) (fun _ _ _ _ _ => (pe_cal G_law_answer (hr.mono (by first | decide | omega)) rfl (pa_cons (pv 1) (pa_cons (pv 0) (pa_cons (pv 2) pa_nil)))))))
    (case c4 => exact (pe_comp (Nc := ["k", "feed", "bits"]) [none, some 0, some 1] rfl (compOk_of (by rfl)) (pi_range1 rfl T.range (pa_cons (pe_cal G_law_pick (hr.mono (by first | decide | omega)) rfl (pa_cons (pv 0) (pa_cons pe_int pa_nil))) pa_nil)) (fun _ _ _ _ _ => (pg_name (i := 0) (show (["k", "feed", "bits"] : List Str).Nodup by decide +kernel) rfl (Or.inl rfl))) (fun _ _ _ _ _ => pf_nil) (fun _ _ _ _ _ => (pe_cal G_law_row (hr.mono (by first | decide | omega)) rfl (pa_cons (pv 1) (pa_cons (pv 2) pa_nil))))))
    have hz16 : (16 : Nat) ≤ sizeLine := by decide
    refine ⟨_, rfl, p, _, 0, rfl, hF, by decide, by decide, by decide, fun r0 H1 hr1 hF1 k1 => ⟨_, _, rfl, rfl, ?_⟩⟩
    obtain ⟨m, em⟩ : ∃ m : Nat, m = 1 + r0 := ⟨_, rfl⟩
    have em' : (1 : Int) + (r0 : Int) = (m : Int) := by omega
    rw [show ((fun (i j : Int) => V.int (i + j)) 1 (r0 : Int)) = V.int (m : Int) from congrArg V.int em']
    have hm : m ≤ 4 := by omega
    have kp1 : KeepP p H H1 := fun b o hb e => by rw [k1 b hb]; exact e
    have ix : atI [V.int 2, V.int 4, V.int 8, V.int 16] ((m : Int) - 1) = some (V.int ((2 ^ m : Nat) : Int)) := by
      rcases (show m = 1 ∨ m = 2 ∨ m = 3 ∨ m = 4 by omega) with rfl | rfl | rfl | rfl <;> rfl
    have hpw : 2 ^ m ≤ 16 := by
      rcases (show m = 1 ∨ m = 2 ∨ m = 3 ∨ m = 4 by omega) with rfl | rfl | rfl | rfl <;> decide
    have hN0 : (0 : Int) ≤ ((2 ^ m : Nat) : Int) := Int.natCast_nonneg _
    have hN1 : ((2 ^ m : Nat) : Int) ≤ 16 := Int.ofNat_le.mpr hpw
    -- many
    refine ⟨by show 4 ≤ sizeLine; decide, fun ml hml => ⟨_, rfl, _, _, rfl, rfl, ml, _, _, _, rfl, rfl, SqL.of upd_same, ix, ?_⟩⟩
    have sml := same_new (o := .lst [V.int 2, V.int 4, V.int 8, V.int 16]) hml
    -- rows
    refine ⟨_, rfl, p, _, _, rfl, hF1.same sml, by decide, by decide, by decide, fun r1 H2 hr2 hF2 k2 => ⟨_, rfl, by omega, by omega, ?_⟩⟩
    have kp2 : KeepP p H H2 := fun b o hb e => by rw [k2 b hb]; exact sml _ _ (kp1 b o hb e)
    refine comp_range (n := r1) (fun i ys σ Z => ∃ (v0 : Option V) (ws : List (Addr × Rw)), σ = [v0, some (.ref p), some (.int (m : Int))] ∧ ys = refs ws ∧ ws.length = i ∧ (∀ z ∈ ws, RwAt Z z.1 z.2 ∧ RwOk m z.2 ∧ LatS z.2.l) ∧ FeedAt Z p (2 + 100 * i) ∧ KeepP p H Z) (by omega) ⟨none, [], rfl, rfl, rfl, (fun z hz => nomatch hz), hF2, kp2⟩ ?_ ?_ ?_
    · rintro i ys σ Z ⟨v0, ws, _, rfl, hl, _⟩
      rw [refs_length]; omega
    · rintro i ys σ Z hi ⟨v0, ws, rfl, rfl, hl, hall, hFZ, kZ⟩
      refine ⟨_, rfl, _, rfl, p, m, _, rfl, hFZ, by omega, hm, fun t Z' r rwt okt lst hF' k' => ?_⟩
      refine ⟨_, ws ++ [(t, r)], rfl, by rw [refs_snoc], by simp [hl], fun z hz => ?_, hF'.mono (by omega), kZ.trans k'⟩
      rcases List.mem_append.mp hz with y | y
      · exact ⟨(hall z y).1.keep hFZ k', (hall z y).2⟩
      · rw [List.mem_singleton.mp y]; exact ⟨rwt, okt, lst⟩
    rintro ys σ Z ⟨v0, ws, _, rfl, hwl, hall, hFZ, kZ⟩ D hD
    have sD := same_new (o := .lst (refs ws)) hD
    refine ⟨D, _, rfl, .inl ⟨SqL.of upd_same, fun R hR => ?_⟩⟩
    have sR := sD.trans (same_new (o := .tup (refs ws)) hR)
    dsimp only [gName]
    refine at_heap (fun B => KeepP p H B ∧ B R = some (.tup (refs ws)) ∧ ∀ z ∈ ws, RwAt B z.1 z.2 ∧ RwOk m z.2 ∧ LatS z.2.l) ⟨kZ.trans (.of sR), upd_same, fun z hz => ⟨(hall z hz).1.same sR, (hall z hz).2⟩⟩ fun B hB => ?_
    clear hall sR hR sD hD hFZ kZ
    obtain ⟨kB, eR, hall⟩ := hB
    have hwl10 : ws.length ≤ 10 := by omega
    have hlm : (ws.map (·.1)).length = (ws.map (·.2)).length := by rw [List.length_map, List.length_map]
    have hrws : ∀ (X : Hp), Same B X → ∀ (j : Nat) (a : Addr) (r : Rw), (ws.map (·.1))[j]? = some a → (ws.map (·.2))[j]? = some r → RwAt X a r := fun X sX j a r e1 e2 => by
      rw [List.getElem?_map] at e1 e2
      obtain ⟨z, hz, rfl⟩ := Option.map_eq_some_iff.mp e1
      rw [hz] at e2
      cases e2
      exact (hall z (List.mem_of_getElem? hz)).1.same sX
    refine ⟨_, rfl, _, rfl, R, m, ws, rfl, hm, eR, hwl10, hall, fun hno Z sZ => ?_, fun x i j r q hdue hr' hq' tp wp Z etp hpr sZ => ?_⟩
    · -- no clash
      have h0 : fndL (ws.map (·.2)) (ws.map (·.2)).length = [] := by
        cases h : fndL (ws.map (·.2)) (ws.map (·.2)).length with
        | nil => rfl
        | cons ns L' =>
          obtain ⟨i, j, x, _, hc⟩ := mem_fndL.mp (show ns ∈ fndL (ws.map (·.2)) (ws.map (·.2)).length by rw [h]; exact List.mem_cons_self)
          exact absurd hc (hno i j x)
      refine ⟨_, rfl, R, ws.map (·.1), ws.map (·.2), rfl, by rw [← refs_eq]; exact sZ _ _ eR, hlm, by rw [List.length_map]; omega, hrws Z sZ, fun _ Z2 sZ2 => ?_, fun x i j r' q' hat => by rw [h0] at hat; simp at hat⟩
      refine ⟨_, rfl, .inl ⟨rfl, rfl, _, rfl, iteF ?_⟩⟩
      refine ⟨_, rfl, _, rfl, iteF ?_⟩
      have hnc := nc_pair (nc_of hno)
      generalize hrs : ws.map (·.2) = rs at hno
      have hrl : rs.length = ws.length := by rw [← hrs, List.length_map]
      have hws2 : ∀ (X : Hp), Same B X → RwsAt2 m X ws := fun X sX z hz => ⟨(hall z hz).1.same sX, (hall z hz).2.1⟩
      refine ⟨16, rfl, by decide, by decide, ?_⟩
      refine for_range (n := 16) (fun t σ X => ∃ (v5 v6 v7 v8 : Option V), σ = [some (.ref p), some (.int (m : Int)), some (.int ((2 ^ m : Nat) : Int)), some (.ref R), some .non, v5, v6, v7, v8] ∧ Same B X)
        ⟨_, _, _, _, rfl, sZ.trans sZ2⟩ ?_ ?_
      · rintro t σ X ht ⟨v5, v6, v7, v8, rfl, sX⟩
        rw [show (0 : Int) + (t : Int) = (t : Int) from Int.zero_add _]
        refine fun d hd => ⟨_, rfl, _, _, rfl, rfl, (show (0 : Int) < 4 by decide), _, rfl, _, _, rfl, rfl, (show (0 : Int) < 4 ∧ (4 : Int).natAbs.log2 < 9000 by decide), upd_same, [((Sum.inl 0 : Key), V.int ((t : Int) % 4)), ((Sum.inl 1 : Key), V.int ((t : Int) / 4))], rfl, (show 2 ≤ 15 by decide), ?_⟩
        have sD1 : Same X (upd (upd X d (.dK [])) d (.dK (mergeK [] [((Sum.inl 0 : Key), V.int ((t : Int) % 4)), ((Sum.inl 1 : Key), V.int ((t : Int) / 4))]))) := fun b o e => by
          rw [upd_ne (ne_of_none e hd), upd_ne (ne_of_none e hd)]; exact e
        have ed1 : upd (upd X d (.dK [])) d (.dK (mergeK [] [((Sum.inl 0 : Key), V.int ((t : Int) % 4)), ((Sum.inl 1 : Key), V.int ((t : Int) / 4))])) d = some (.dK (dV [0, 1] (w2 (t % 4) (t / 4)))) := by
          rw [upd_same, show (t : Int) % 4 = ((t % 4 : Nat) : Int) by omega, show (t : Int) / 4 = ((t / 4 : Nat) : Int) by omega, disp_is]
        dsimp only [gName]
        refine at_heap (fun G => Same B G ∧ G d = some (.dK (dV [0, 1] (w2 (t % 4) (t / 4))))) ⟨sX.trans sD1, ed1⟩ fun G hG => ?_
        obtain ⟨sG, ed⟩ := hG
        clear sD1 ed1
        -- on
        refine ⟨_, rfl, _, rfl, by omega, by omega, ?_⟩
        refine comp_range (n := 2 ^ m) (fun i ys σ Z => ∃ (v0 : Option V) (os : List Addr), σ = [v0, some (.ref R), some (.ref d)] ∧ ys = os.map V.ref ∧ os.length = i ∧ (∀ (j : Nat) (o : Addr), os[j]? = some o → Z o = some (.lst (vN (An rs j t)))) ∧ Same G Z) (by omega) ⟨none, [], rfl, rfl, rfl, (fun j o e => by simp at e), Same.refl _⟩ ?_ ?_ ?_
        · rintro i ys σ Z ⟨v0, os, _, rfl, hl, _⟩
          rw [List.length_map]; omega
        · rintro i ys σ Z hi ⟨v0, os, rfl, rfl, hl, hos, sZ⟩
          rw [show (0 : Int) + (i : Int) = (i : Int) from Int.zero_add _]
          have sBZ := sG.trans sZ
          refine ⟨_, rfl, _, rfl, _, rfl, R, d, 0, i, t % 4, t / 4, ws, rfl, sBZ _ _ eR, hwl10, fun z hz => ⟨(hall z hz).1.same sBZ, (hall z hz).2.2⟩, sZ _ _ ed, fun l Z2 hl2 el sl => ?_⟩
          rw [hrs, ← hrl] at el
          refine ⟨_, os ++ [l], rfl, by rw [List.map_append]; rfl, by simp [hl], fun j o e => ?_, sZ.trans sl⟩
          rcases get_snoc e with z | ⟨z, rfl⟩
          · exact sl _ _ (hos j o z)
          · rw [z, hl]; exact el
        rintro ys σ Z ⟨v0, os, _, rfl, hol', hos, sZ⟩ L hL
        have sL := sZ.trans (same_new (o := .lst (os.map V.ref)) hL)
        dsimp only [gName]
        refine at_heap (fun Y => Same G Y ∧ Y L = some (.lst (os.map V.ref)) ∧ ∀ (j : Nat) (o : Addr), os[j]? = some o → Y o = some (.lst (vN (An rs j t)))) ⟨sL, upd_same, fun j o e => same_new hL _ _ (hos j o e)⟩ fun Y hY => ?_
        clear hos sL hL sZ
        obtain ⟨sY, eL, hos⟩ := hY
        have sBY := sG.trans sY
        -- holes
        refine ⟨_, rfl, _, rfl, by omega, by omega, ?_⟩
        refine comp_range (n := 2 ^ m) (fun i ys σ Z => ∃ v0 : Option V, σ = [v0, some (.ref L)] ∧ ys = vN (hls rs t i) ∧ Same Y Z) (by omega) ⟨none, rfl, rfl, Same.refl _⟩ ?_ ?_ ?_
        · rintro i ys σ Z ⟨v0, _, rfl, _⟩
          rw [vN_length]; exact hls_len _ _ _
        · rintro i ys σ Z hi ⟨v0, rfl, rfl, sZ⟩
          rw [show (0 : Int) + (i : Int) = (i : Int) from Int.zero_add _]
          obtain ⟨o, ho⟩ : ∃ o, os[i]? = some o := ⟨_, List.getElem?_eq_getElem (by omega)⟩
          have eo := sZ _ _ (hos i o ho)
          refine ⟨_, rfl, _, rfl, L, _, _, V.ref o, rfl, rfl, SqL.of (sZ _ _ eL), atI_nat (by rw [List.getElem?_map, ho]; rfl), by show 0 ≤ sizeLine; decide, fun e he => ⟨o, e, _, rfl, rfl, SqL.of (same_new he _ _ eo), SqL.of upd_same, _, rfl, ite2 (fun h1 => ?_) (fun h1 => ?_)⟩⟩
          · have hA : An rs i t = [] := by
              cases hA : An rs i t with
              | nil => rfl
              | cons _ _ => rw [hA] at h1; cases h1
            exact ⟨_, rfl, _, rfl, by rw [hls_succ, if_pos hA, vN_snoc], sZ.trans (same_new he)⟩
          · have hA : ¬ An rs i t = [] := fun z => by rw [z] at h1; exact h1 rfl
            exact ⟨_, rfl, by rw [hls_succ, if_neg hA, List.append_nil], sZ.trans (same_new he)⟩
        rintro ys σ Z ⟨v0, _, rfl, sZ⟩ O hO
        have sO := sZ.trans (same_new (o := .lst (vN (hls rs t (2 ^ m)))) hO)
        dsimp only [gName]
        refine at_heap (fun W => Same Y W ∧ W O = some (.lst (vN (hls rs t (2 ^ m))))) ⟨sO, upd_same⟩ fun W hW => ?_
        clear sO hO sZ
        obtain ⟨sW, eO⟩ := hW
        -- the two lists
        refine ⟨_, rfl, _, rfl, by omega, by omega, ?_⟩
        refine comp_range (n := 2 ^ m) (fun i ys σ Z => ∃ v0 : Option V, σ = [v0, some (.ref R), some (.ref d)] ∧ ys = (List.range i).map (fun y => hd0 (An rs y t)) ∧ Same W Z) (by omega) ⟨none, rfl, rfl, Same.refl _⟩ ?_ ?_ ?_
        · rintro i ys σ Z ⟨v0, _, rfl, _⟩
          rw [List.length_map, List.length_range]; exact Nat.le_refl _
        · rintro i ys σ Z hi ⟨v0, rfl, rfl, sZ⟩
          rw [show (0 : Int) + (i : Int) = (i : Int) from Int.zero_add _]
          have sBZ := (sBY.trans sW).trans sZ
          refine ⟨_, rfl, _, rfl, _, rfl, R, d, i, ws, [0, 1], w2 (t % 4) (t / 4), rfl, sBZ _ _ eR, fun z hz => (hall z hz).1.same sBZ, ((sY.trans sW).trans sZ) _ _ ed, fun Z2 sZ2 => ?_⟩
          refine ⟨_, rfl, ?_, sZ.trans sZ2⟩
          rw [hrs, fst_hd, List.range_succ, List.map_append]; rfl
        rintro ys σ Z ⟨v0, _, rfl, sZ⟩ C1 hC1
        have sC1 := same_new (o := .lst ((List.range (2 ^ m)).map (fun y => hd0 (An rs y t)))) hC1
        have sWC := sZ.trans sC1
        refine ⟨_, rfl, L, rfl, ⟨_, SqL.of (sWC _ _ (sW _ _ eL))⟩, ?_⟩
        refine comp_list (K := K) (a := L) (xs := os.map V.ref) (fun i ys σ Z2 => ∃ v0 : Option V, σ = [v0] ∧ ys = (List.range i).map (fun y => hd0 (An rs y t)) ∧ Same (upd Z C1 (.lst ((List.range (2 ^ m)).map (fun y => hd0 (An rs y t))))) Z2) (by rw [List.length_map]; omega) ⟨none, rfl, rfl, Same.refl _⟩ ?_ ?_ ?_
        · rintro i ys σ Z2 hi ⟨v0, _, rfl, sZ2⟩
          exact ⟨SqL.of (sZ2 _ _ (sWC _ _ (sW _ _ eL))), by rw [List.length_map, List.length_range]; exact Nat.le_refl _⟩
        · rintro i x ys σ Z2 hx ⟨v0, rfl, rfl, sZ2⟩
          rw [List.getElem?_map] at hx
          obtain ⟨o, ho, rfl⟩ := Option.map_eq_some_iff.mp hx
          have eo := sZ2 _ _ (sWC _ _ (sW _ _ (hos i o ho)))
          have hAl : (An rs i t).length ≤ 10 := Nat.le_trans (ansL_len _ _ _ _) (by omega)
          refine ⟨_, rfl, by show 1 ≤ sizeLine; decide, fun q hq => ?_⟩
          have sq := same_new (o := .lst [.non]) hq
          refine ⟨o, q, _, _, rfl, rfl, SqL.of (sq _ _ eo), SqL.of upd_same, by rw [vN_length]; show (An rs i t).length + 1 ≤ _; omega, fun q2 hq2 => ?_⟩
          have sq2 := sq.trans (same_new (o := .lst (vN (An rs i t) ++ [.non])) hq2)
          refine ⟨q2, _, _, _, rfl, rfl, SqL.of upd_same, atI_nat (j := 0) (hd0_at _), _, rfl, ?_, sZ2.trans sq2⟩
          rw [List.range_succ, List.map_append]; rfl
        rintro ys σ Z2 ⟨v0, _, rfl, sZ2⟩ C2 hC2
        rw [List.length_map, hol']
        have sC2 := same_new (o := .lst ((List.range (2 ^ m)).map (fun y => hd0 (An rs y t)))) hC2
        refine ⟨C1, C2, _, rfl, rfl, SqL.of (sC2 _ _ (sZ2 _ _ upd_same)), SqL.of upd_same, fun z hz => ?_, _, rfl, iteF ?_⟩
        · obtain ⟨y, _, rfl⟩ := List.mem_map.mp hz
          exact hd0_kind _
        have sV := sWC.trans (sZ2.trans sC2)
        refine at_heap (fun V' => Same W V') sV fun V' sV' => ?_
        have sBV := (sBY.trans sW).trans sV'
        have edV := ((sY.trans sW).trans sV') _ _ ed
        have hl16 := hls_len rs t (2 ^ m)
        -- the counts
        refine ⟨_, rfl, _, rfl, _, rfl, R, d, m, ws, [0, 1], w2 (t % 4) (t / 4), rfl, by omega, sBV _ _ eR, by omega, hws2 _ sBV, hnc, edV, fun V1 s1 => ?_⟩
        have sV1 := sBV.trans s1
        refine ⟨_, rfl, O, _, rfl, .inl (SqL.of (s1 _ _ (sV' _ _ eO))), rfl, _, rfl, ?_⟩
        rw [vN_length, hol_is hrs, show decide (V.int ((hls rs t (2 ^ m)).length : Int) = V.int ((hls rs t (2 ^ m)).length : Int)) = true from decide_eq_true rfl]
        refine iteF ?_
        refine ⟨_, rfl, _, rfl, _, rfl, R, d, m, ws, [0, 1], w2 (t % 4) (t / 4), rfl, by omega, sV1 _ _ eR, by omega, hws2 _ sV1, hnc, s1 _ _ edV, fun hz V2 s2 => ?_, fun x hx hh hz V2 s2 => ?_⟩
        · rw [hol_is hrs] at hz
          have hz := List.eq_nil_of_length_eq_zero hz
          have eO2 := s2 _ _ (s1 _ _ (sV' _ _ eO))
          rw [hz] at eO2
          refine ⟨_, rfl, by show 1 ≤ sizeLine; decide, fun q hq => ?_⟩
          have sq := same_new (o := .lst [.non]) hq
          refine ⟨O, q, _, _, rfl, rfl, SqL.of (sq _ _ eO2), SqL.of upd_same, by show 0 + 1 ≤ sizeLine; decide, fun q2 hq2 => ?_⟩
          have sq2 := sq.trans (same_new (o := .lst (vN [] ++ [.non])) hq2)
          refine ⟨q2, _, _, _, rfl, rfl, SqL.of upd_same, atI_nat (j := 0) (hd0_at []), rfl, _, rfl, ?_⟩
          exact iteF ⟨_, _, _, _, rfl, (sV1.trans s2).trans sq2⟩
        · obtain ⟨tl, el⟩ : ∃ tl, hls rs t (2 ^ m) = x :: tl := by
            rw [hole_is hrs] at hh
            rw [hol_is hrs] at hz
            cases e : hls rs t (2 ^ m) with
            | nil =>
              have : x ∈ hls rs t (2 ^ m) := List.mem_filter.mpr ⟨List.mem_range.mpr hx, hh⟩
              rw [e] at this; cases this
            | cons y tl =>
              obtain ⟨y1, y2, y3⟩ := hls_head e
              rcases (show y < x ∨ y = x ∨ x < y by omega) with z | z | z
              · have : y ∈ hls rs t x := List.mem_filter.mpr ⟨List.mem_range.mpr z, decide_eq_true y2⟩
                rw [List.eq_nil_of_length_eq_zero hz] at this; cases this
              · exact ⟨tl, by rw [z]⟩
              · have : x ∈ hls rs t y := List.mem_filter.mpr ⟨List.mem_range.mpr z, hh⟩
                rw [y3] at this; cases this
          have eO2 := s2 _ _ (s1 _ _ (sV' _ _ eO))
          refine ⟨_, rfl, by show 1 ≤ sizeLine; decide, fun q hq => ?_⟩
          have sq := same_new (o := .lst [.non]) hq
          refine ⟨O, q, _, _, rfl, rfl, SqL.of (sq _ _ eO2), SqL.of upd_same, by rw [vN_length]; show (hls rs t (2 ^ m)).length + 1 ≤ _; exact Nat.le_trans (show _ ≤ 17 by omega) (by decide), fun q2 hq2 => ?_⟩
          have sq2 := sq.trans (same_new (o := .lst (vN (hls rs t (2 ^ m)) ++ [.non])) hq2)
          refine ⟨q2, _, _, _, rfl, rfl, SqL.of upd_same, atI_nat (j := 0) (hd0_at _), ?_⟩
          rw [el] at sq2 ⊢
          refine ⟨rfl, _, rfl, ?_⟩
          rw [show decide (V.int (x : Int) = hd0 (x :: tl)) = true from decide_eq_true rfl]
          exact iteF ⟨_, _, _, _, rfl, (sV1.trans s2).trans sq2⟩
      · rintro σ X ⟨v5, v6, v7, v8, rfl, sX⟩
        exact k X (kB.trans (.of sX))
    · -- a clash
      have h0 : fndL (ws.map (·.2)) (ws.map (·.2)).length ≠ [] := fun z => fnd_none z i j x hdue.1
      refine ⟨_, rfl, R, ws.map (·.1), ws.map (·.2), rfl, by rw [← refs_eq]; exact sZ _ _ eR, hlm, by rw [List.length_map]; omega, hrws Z sZ, fun z => absurd z h0, fun x2 i2 j2 r2 q2 hat hr2 hq2 tp2 wp2 Z2 _ etp2 hpr2 sZ2 => ?_⟩
      obtain ⟨rfl, rfl, rfl⟩ := (due_best hat).uniq hdue
      rw [hr'] at hr2; cases hr2
      rw [hq'] at hq2; cases hq2
      refine ⟨_, rfl, .inr ⟨tp2, tp, _, _, rfl, rfl, SqT.of etp2, SqT.of (sZ2 _ _ etp), rfl, fun i' x' y' ex ey => ?_, _, rfl, iteF ?_⟩⟩
      · rcases (show i' = 0 ∨ i' = 1 ∨ i' = 2 ∨ i' = 3 by have := (List.getElem?_eq_some_iff.mp ex).1; simp at this; omega) with rfl | rfl | rfl | rfl
        · cases ex; cases ey; exact .int _ _
        · cases ex; cases ey; exact .int _ _
        · cases ex; cases ey; exact .int _ _
        · cases ex; cases ey; exact hpr2.eqv (hpr.same sZ2)
      · exact ⟨_, rfl, _, rfl, iteT (k Z2 (kB.trans (.of (sZ.trans sZ2))))⟩
end
abbrev slaw : Stmt := top 25
theorem sclaw : FnScope ["script", "cell"] ["script"] (defScope slaw) := ⟨rfl, rfl, rfl, by decide +kernel, rfl, by decide +kernel, by decide +kernel⟩
section
variable {P : Program} {w : World} {K : PySem.W.Frag} {mg : Str → Option Value} {base : Heap}
theorem oklaw {f : Addr} {fd : FuncData} (F : Fun K "law" "law" slaw f fd) (T : Blt mg) (G_law_right : Cal P w K mg base 6 "_law_right" ["feed"] spRight) (G_law_feed : Cal P w K mg base 1 "_law_feed" ["cell"] spFeed) : FnOk P w K mg base CX0 (6 + 1) f fd ["script"] (spLaw K) := by
  refine F.ok sclaw (fun vs H Q E h => ?_) (fun cdv A outer s H vs Q E hr h => ?_)
  · obtain ⟨a, ns, rfl, _⟩ := h; rfl
  · obtain ⟨a, ns, rfl, hS, hlen, hbits, k⟩ := h
    refine ⟨_, (pss_cons (ps_for PassesOwn.never rfl (pi_list (pe_slice sl_list (pe_op op_catS (pv 0) (pe_lst (pa_cons pe_int pa_nil))) po_none (po_some (pe_callB (call_max2 rfl) (by rfl) T.max PyProof.Rows.boot_max (pa_cons pe_int (pa_cons (pe_callB (call_min2 rfl) (by rfl) T.min PyProof.Rows.boot_min (pa_cons (pe_callB call_len_seq (by rfl) T.len PySem.boot_len (pa_cons (pv 0) pa_nil)) (pa_cons pe_int pa_nil))) pa_nil)))))) (pg_name (i := 1) sclaw.nd rfl (Or.inl rfl))
      (pss_one (ps_if (pt_not (pt_val (pe_cal G_law_right (hr.mono (by first | decide | omega)) rfl (pa_cons (pe_cal G_law_feed (hr.mono (by first | decide | omega)) rfl (pa_cons (pv 1) pa_nil)) pa_nil)))) (pss_one (ps_ret pe_bl)) pss_nil)))
      (pss_one (ps_ret pe_bl))), ?rd⟩
    have hz : (64 : Nat) ≤ sizeLine := by decide
    -- (script + [0])[:max(1, min(len(script), ..))]
    refine ⟨_, rfl, by show 1 ≤ sizeLine; decide, fun q hq => ⟨a, q, _, _, rfl, rfl, (same_new hq).seq hS, SqL.of upd_same, ?_, fun q2 hq2 => ?_⟩⟩
    · rw [List.length_map]; show ns.length + 1 ≤ sizeLine; omega
    have hS2 : SqL K (upd (upd H q (.lst [V.int 0])) q2 (.lst (ns.map V.int ++ [V.int 0]))) a (ns.map V.int) := (same_new hq2).seq ((same_new hq).seq hS)
    refine ⟨_, rfl, a, _, rfl, .inl hS2, _, _, rfl, _, _, rfl, _, rfl, q2, _, rfl, SqL.of upd_same, fun q3 hq3 => ?_⟩
    generalize hcut : cutV (ns.map V.int ++ [V.int 0]) none _ = xs
    have hxs : ∀ (i : Nat) (x : V), xs[i]? = some x → ∃ c : Int, x = .int c ∧ Builtin.Int.intBits c ≤ 2 ^ 20 := by
      intro i x hx
      have hm : x ∈ ns.map V.int ++ [V.int 0] := by
        have := List.mem_of_getElem? hx
        rw [← hcut] at this
        unfold cutV at this
        exact List.mem_of_mem_drop (List.mem_of_mem_take this)
      rcases List.mem_append.mp hm with z | z
      · obtain ⟨c, hc, rfl⟩ := List.mem_map.mp z
        exact ⟨c, rfl, hbits c hc⟩
      · exact ⟨0, List.mem_singleton.mp z, by decide⟩
    refine ⟨q3, rfl, ⟨_, SqL.of upd_same⟩, for_list (K := K) (a := q3) (xs := xs) (fun i σ H2 => ∃ v, σ = [some (.ref a), v] ∧ H2 q3 = some (.lst xs)) ⟨none, rfl, upd_same⟩ (fun i σ H2 _ ⟨_, _, e⟩ => SqL.of e) ?_ ?_⟩
    · rintro i x σ H2 hi ⟨v, rfl, h3⟩
      obtain ⟨c, rfl, hc⟩ := hxs i x hi
      refine ⟨_, rfl, c, rfl, hc, fun p H3 hp hF s3 => ⟨p, rfl, hF, fun H4 k4 => ⟨true, rfl, iteF ?_⟩⟩⟩
      exact ⟨_, rfl, k4 q3 _ (ne_of_none h3 hp) (s3 _ _ h3)⟩
    · rintro σ H2 ⟨v, rfl, h3⟩
      exact k H2
end
theorem all_mk {l : PySem.W.OpenLaw} {w : World} {K : PySem.W.Frag} {h : Heap} {mg : Str → Option Value} {fa : Addr} (X : K.In h) (G : h.Ns mainGlobals mg) (hfa : mg "law" = some (.ref fa))
    {f_single_ones : Addr} {oc_single_ones : Value} {kV_single_ones : Value} {dc_single_ones : Value} {pm_single_ones : Value} {cd_single_ones : Value} {ct_single_ones : Value} {od_single_ones : Option Addr} {an_single_ones : Option Addr} {sl_single_ones : Array (Option Value)}
    {f_ones_of : Addr} {oc_ones_of : Value} {kV_ones_of : Value} {dc_ones_of : Value} {pm_ones_of : Value} {cd_ones_of : Value} {ct_ones_of : Value} {od_ones_of : Option Addr} {an_ones_of : Option Addr} {sl_ones_of : Array (Option Value)}
    {f_size_of : Addr} {oc_size_of : Value} {kV_size_of : Value} {dc_size_of : Value} {pm_size_of : Value} {cd_size_of : Value} {ct_size_of : Value} {od_size_of : Option Addr} {an_size_of : Option Addr} {sl_size_of : Array (Option Value)}
    {f_choices_agree : Addr} {oc_choices_agree : Value} {kV_choices_agree : Value} {dc_choices_agree : Value} {pm_choices_agree : Value} {cd_choices_agree : Value} {ct_choices_agree : Value} {od_choices_agree : Option Addr} {an_choices_agree : Option Addr} {sl_choices_agree : Array (Option Value)}
    {f_latches_agree : Addr} {oc_latches_agree : Value} {kV_latches_agree : Value} {dc_latches_agree : Value} {pm_latches_agree : Value} {cd_latches_agree : Value} {ct_latches_agree : Value} {od_latches_agree : Option Addr} {an_latches_agree : Option Addr} {sl_latches_agree : Array (Option Value)}
    {f_rows_clash : Addr} {oc_rows_clash : Value} {kV_rows_clash : Value} {dc_rows_clash : Value} {pm_rows_clash : Value} {cd_rows_clash : Value} {ct_rows_clash : Value} {od_rows_clash : Option Addr} {an_rows_clash : Option Addr} {sl_rows_clash : Array (Option Value)}
    {f_least_words : Addr} {oc_least_words : Value} {kV_least_words : Value} {dc_least_words : Value} {pm_least_words : Value} {cd_least_words : Value} {ct_least_words : Value} {od_least_words : Option Addr} {an_least_words : Option Addr} {sl_least_words : Array (Option Value)}
    {f_clash_of : Addr} {oc_clash_of : Value} {kV_clash_of : Value} {dc_clash_of : Value} {pm_clash_of : Value} {cd_clash_of : Value} {ct_clash_of : Value} {od_clash_of : Option Addr} {an_clash_of : Option Addr} {sl_clash_of : Array (Option Value)}
    {f_meets : Addr} {oc_meets : Value} {kV_meets : Value} {dc_meets : Value} {pm_meets : Value} {cd_meets : Value} {ct_meets : Value} {od_meets : Option Addr} {an_meets : Option Addr} {sl_meets : Array (Option Value)}
    {f_is_awake : Addr} {oc_is_awake : Value} {kV_is_awake : Value} {dc_is_awake : Value} {pm_is_awake : Value} {cd_is_awake : Value} {ct_is_awake : Value} {od_is_awake : Option Addr} {an_is_awake : Option Addr} {sl_is_awake : Array (Option Value)}
    {f_answering : Addr} {oc_answering : Value} {kV_answering : Value} {dc_answering : Value} {pm_answering : Value} {cd_answering : Value} {ct_answering : Value} {od_answering : Option Addr} {an_answering : Option Addr} {sl_answering : Array (Option Value)}
    {f_holes_among : Addr} {oc_holes_among : Value} {kV_holes_among : Value} {dc_holes_among : Value} {pm_holes_among : Value} {cd_holes_among : Value} {ct_holes_among : Value} {od_holes_among : Option Addr} {an_holes_among : Option Addr} {sl_holes_among : Array (Option Value)}
    {f_unanswered : Addr} {oc_unanswered : Value} {kV_unanswered : Value} {dc_unanswered : Value} {pm_unanswered : Value} {cd_unanswered : Value} {ct_unanswered : Value} {od_unanswered : Option Addr} {an_unanswered : Option Addr} {sl_unanswered : Array (Option Value)}
    {f_least_hole : Addr} {oc_least_hole : Value} {kV_least_hole : Value} {dc_least_hole : Value} {pm_least_hole : Value} {cd_least_hole : Value} {ct_least_hole : Value} {od_least_hole : Option Addr} {an_least_hole : Option Addr} {sl_least_hole : Array (Option Value)}
    {f__law_feed : Addr} {oc__law_feed : Value} {kV__law_feed : Value} {dc__law_feed : Value} {pm__law_feed : Value} {cd__law_feed : Value} {ct__law_feed : Value} {od__law_feed : Option Addr} {an__law_feed : Option Addr} {sl__law_feed : Array (Option Value)}
    {f__law_pick : Addr} {oc__law_pick : Value} {kV__law_pick : Value} {dc__law_pick : Value} {pm__law_pick : Value} {cd__law_pick : Value} {ct__law_pick : Value} {od__law_pick : Option Addr} {an__law_pick : Option Addr} {sl__law_pick : Array (Option Value)}
    {f__law_row : Addr} {oc__law_row : Value} {kV__law_row : Value} {dc__law_row : Value} {pm__law_row : Value} {cd__law_row : Value} {ct__law_row : Value} {od__law_row : Option Addr} {an__law_row : Option Addr} {sl__law_row : Array (Option Value)}
    {f__law_answer : Addr} {oc__law_answer : Value} {kV__law_answer : Value} {dc__law_answer : Value} {pm__law_answer : Value} {cd__law_answer : Value} {ct__law_answer : Value} {od__law_answer : Option Addr} {an__law_answer : Option Addr} {sl__law_answer : Array (Option Value)}
    {f__law_least : Addr} {oc__law_least : Value} {kV__law_least : Value} {dc__law_least : Value} {pm__law_least : Value} {cd__law_least : Value} {ct__law_least : Value} {od__law_least : Option Addr} {an__law_least : Option Addr} {sl__law_least : Array (Option Value)}
    {f__law_first : Addr} {oc__law_first : Value} {kV__law_first : Value} {dc__law_first : Value} {pm__law_first : Value} {cd__law_first : Value} {ct__law_first : Value} {od__law_first : Option Addr} {an__law_first : Option Addr} {sl__law_first : Array (Option Value)}
    {f__law_right : Addr} {oc__law_right : Value} {kV__law_right : Value} {dc__law_right : Value} {pm__law_right : Value} {cd__law_right : Value} {ct__law_right : Value} {od__law_right : Option Addr} {an__law_right : Option Addr} {sl__law_right : Array (Option Value)}
    {f_law : Addr} {oc_law : Value} {kV_law : Value} {dc_law : Value} {pm_law : Value} {cd_law : Value} {ct_law : Value} {od_law : Option Addr} {an_law : Option Addr} {sl_law : Array (Option Value)}
    (zS : PySem.W.nsIn K mainGlobals "sorted" = some none)
    (a0_single_ones : PySem.W.nsIn K mainGlobals "single_ones" = some (some (.ref f_single_ones)))
    (l_single_ones : K.lookup f_single_ones = some ⟨oc_single_ones, od_single_ones, .func (PySem.W.fnOf "single_ones" "single_ones" (defArgs ssingle_ones) (defBody ssingle_ones) (defScope ssingle_ones) .none kV_single_ones dc_single_ones pm_single_ones an_single_ones cd_single_ones ct_single_ones), sl_single_ones⟩)
    (c_single_ones : PySem.W.codeIn K cd_single_ones "single_ones" = true)
    (k_single_ones : PySem.W.keepIn K (.ref f_single_ones) = true)
    (a0_ones_of : PySem.W.nsIn K mainGlobals "ones_of" = some (some (.ref f_ones_of)))
    (l_ones_of : K.lookup f_ones_of = some ⟨oc_ones_of, od_ones_of, .func (PySem.W.fnOf "ones_of" "ones_of" (defArgs sones_of) (defBody sones_of) (defScope sones_of) .none kV_ones_of dc_ones_of pm_ones_of an_ones_of cd_ones_of ct_ones_of), sl_ones_of⟩)
    (c_ones_of : PySem.W.codeIn K cd_ones_of "ones_of" = true)
    (k_ones_of : PySem.W.keepIn K (.ref f_ones_of) = true)
    (a0_size_of : PySem.W.nsIn K mainGlobals "size_of" = some (some (.ref f_size_of)))
    (l_size_of : K.lookup f_size_of = some ⟨oc_size_of, od_size_of, .func (PySem.W.fnOf "size_of" "size_of" (defArgs ssize_of) (defBody ssize_of) (defScope ssize_of) .none kV_size_of dc_size_of pm_size_of an_size_of cd_size_of ct_size_of), sl_size_of⟩)
    (c_size_of : PySem.W.codeIn K cd_size_of "size_of" = true)
    (k_size_of : PySem.W.keepIn K (.ref f_size_of) = true)
    (a0_choices_agree : PySem.W.nsIn K mainGlobals "choices_agree" = some (some (.ref f_choices_agree)))
    (l_choices_agree : K.lookup f_choices_agree = some ⟨oc_choices_agree, od_choices_agree, .func (PySem.W.fnOf "choices_agree" "choices_agree" (defArgs schoices_agree) (defBody schoices_agree) (defScope schoices_agree) .none kV_choices_agree dc_choices_agree pm_choices_agree an_choices_agree cd_choices_agree ct_choices_agree), sl_choices_agree⟩)
    (c_choices_agree : PySem.W.codeIn K cd_choices_agree "choices_agree" = true)
    (k_choices_agree : PySem.W.keepIn K (.ref f_choices_agree) = true)
    (a0_latches_agree : PySem.W.nsIn K mainGlobals "latches_agree" = some (some (.ref f_latches_agree)))
    (l_latches_agree : K.lookup f_latches_agree = some ⟨oc_latches_agree, od_latches_agree, .func (PySem.W.fnOf "latches_agree" "latches_agree" (defArgs slatches_agree) (defBody slatches_agree) (defScope slatches_agree) .none kV_latches_agree dc_latches_agree pm_latches_agree an_latches_agree cd_latches_agree ct_latches_agree), sl_latches_agree⟩)
    (c_latches_agree : PySem.W.codeIn K cd_latches_agree "latches_agree" = true)
    (k_latches_agree : PySem.W.keepIn K (.ref f_latches_agree) = true)
    (a0_rows_clash : PySem.W.nsIn K mainGlobals "rows_clash" = some (some (.ref f_rows_clash)))
    (l_rows_clash : K.lookup f_rows_clash = some ⟨oc_rows_clash, od_rows_clash, .func (PySem.W.fnOf "rows_clash" "rows_clash" (defArgs srows_clash) (defBody srows_clash) (defScope srows_clash) .none kV_rows_clash dc_rows_clash pm_rows_clash an_rows_clash cd_rows_clash ct_rows_clash), sl_rows_clash⟩)
    (c_rows_clash : PySem.W.codeIn K cd_rows_clash "rows_clash" = true)
    (k_rows_clash : PySem.W.keepIn K (.ref f_rows_clash) = true)
    (a0_least_words : PySem.W.nsIn K mainGlobals "least_words" = some (some (.ref f_least_words)))
    (l_least_words : K.lookup f_least_words = some ⟨oc_least_words, od_least_words, .func (PySem.W.fnOf "least_words" "least_words" (defArgs sleast_words) (defBody sleast_words) (defScope sleast_words) .none kV_least_words dc_least_words pm_least_words an_least_words cd_least_words ct_least_words), sl_least_words⟩)
    (c_least_words : PySem.W.codeIn K cd_least_words "least_words" = true)
    (k_least_words : PySem.W.keepIn K (.ref f_least_words) = true)
    (a0_clash_of : PySem.W.nsIn K mainGlobals "clash_of" = some (some (.ref f_clash_of)))
    (l_clash_of : K.lookup f_clash_of = some ⟨oc_clash_of, od_clash_of, .func (PySem.W.fnOf "clash_of" "clash_of" (defArgs sclash_of) (defBody sclash_of) (defScope sclash_of) .none kV_clash_of dc_clash_of pm_clash_of an_clash_of cd_clash_of ct_clash_of), sl_clash_of⟩)
    (c_clash_of : PySem.W.codeIn K cd_clash_of "clash_of" = true)
    (k_clash_of : PySem.W.keepIn K (.ref f_clash_of) = true)
    (a0_meets : PySem.W.nsIn K mainGlobals "meets" = some (some (.ref f_meets)))
    (l_meets : K.lookup f_meets = some ⟨oc_meets, od_meets, .func (PySem.W.fnOf "meets" "meets" (defArgs smeets) (defBody smeets) (defScope smeets) .none kV_meets dc_meets pm_meets an_meets cd_meets ct_meets), sl_meets⟩)
    (c_meets : PySem.W.codeIn K cd_meets "meets" = true)
    (k_meets : PySem.W.keepIn K (.ref f_meets) = true)
    (a0_is_awake : PySem.W.nsIn K mainGlobals "is_awake" = some (some (.ref f_is_awake)))
    (l_is_awake : K.lookup f_is_awake = some ⟨oc_is_awake, od_is_awake, .func (PySem.W.fnOf "is_awake" "is_awake" (defArgs sis_awake) (defBody sis_awake) (defScope sis_awake) .none kV_is_awake dc_is_awake pm_is_awake an_is_awake cd_is_awake ct_is_awake), sl_is_awake⟩)
    (c_is_awake : PySem.W.codeIn K cd_is_awake "is_awake" = true)
    (k_is_awake : PySem.W.keepIn K (.ref f_is_awake) = true)
    (a0_answering : PySem.W.nsIn K mainGlobals "answering" = some (some (.ref f_answering)))
    (l_answering : K.lookup f_answering = some ⟨oc_answering, od_answering, .func (PySem.W.fnOf "answering" "answering" (defArgs sanswering) (defBody sanswering) (defScope sanswering) .none kV_answering dc_answering pm_answering an_answering cd_answering ct_answering), sl_answering⟩)
    (c_answering : PySem.W.codeIn K cd_answering "answering" = true)
    (k_answering : PySem.W.keepIn K (.ref f_answering) = true)
    (a0_holes_among : PySem.W.nsIn K mainGlobals "holes_among" = some (some (.ref f_holes_among)))
    (l_holes_among : K.lookup f_holes_among = some ⟨oc_holes_among, od_holes_among, .func (PySem.W.fnOf "holes_among" "holes_among" (defArgs sholes_among) (defBody sholes_among) (defScope sholes_among) .none kV_holes_among dc_holes_among pm_holes_among an_holes_among cd_holes_among ct_holes_among), sl_holes_among⟩)
    (c_holes_among : PySem.W.codeIn K cd_holes_among "holes_among" = true)
    (k_holes_among : PySem.W.keepIn K (.ref f_holes_among) = true)
    (a0_unanswered : PySem.W.nsIn K mainGlobals "unanswered" = some (some (.ref f_unanswered)))
    (l_unanswered : K.lookup f_unanswered = some ⟨oc_unanswered, od_unanswered, .func (PySem.W.fnOf "unanswered" "unanswered" (defArgs sunanswered) (defBody sunanswered) (defScope sunanswered) .none kV_unanswered dc_unanswered pm_unanswered an_unanswered cd_unanswered ct_unanswered), sl_unanswered⟩)
    (c_unanswered : PySem.W.codeIn K cd_unanswered "unanswered" = true)
    (k_unanswered : PySem.W.keepIn K (.ref f_unanswered) = true)
    (a0_least_hole : PySem.W.nsIn K mainGlobals "least_hole" = some (some (.ref f_least_hole)))
    (l_least_hole : K.lookup f_least_hole = some ⟨oc_least_hole, od_least_hole, .func (PySem.W.fnOf "least_hole" "least_hole" (defArgs sleast_hole) (defBody sleast_hole) (defScope sleast_hole) .none kV_least_hole dc_least_hole pm_least_hole an_least_hole cd_least_hole ct_least_hole), sl_least_hole⟩)
    (c_least_hole : PySem.W.codeIn K cd_least_hole "least_hole" = true)
    (k_least_hole : PySem.W.keepIn K (.ref f_least_hole) = true)
    (a0__law_feed : PySem.W.nsIn K mainGlobals "_law_feed" = some (some (.ref f__law_feed)))
    (l__law_feed : K.lookup f__law_feed = some ⟨oc__law_feed, od__law_feed, .func (PySem.W.fnOf "_law_feed" "_law_feed" (defArgs s_law_feed) (defBody s_law_feed) (defScope s_law_feed) .none kV__law_feed dc__law_feed pm__law_feed an__law_feed cd__law_feed ct__law_feed), sl__law_feed⟩)
    (c__law_feed : PySem.W.codeIn K cd__law_feed "_law_feed" = true)
    (k__law_feed : PySem.W.keepIn K (.ref f__law_feed) = true)
    (a0__law_pick : PySem.W.nsIn K mainGlobals "_law_pick" = some (some (.ref f__law_pick)))
    (l__law_pick : K.lookup f__law_pick = some ⟨oc__law_pick, od__law_pick, .func (PySem.W.fnOf "_law_pick" "_law_pick" (defArgs s_law_pick) (defBody s_law_pick) (defScope s_law_pick) .none kV__law_pick dc__law_pick pm__law_pick an__law_pick cd__law_pick ct__law_pick), sl__law_pick⟩)
    (c__law_pick : PySem.W.codeIn K cd__law_pick "_law_pick" = true)
    (k__law_pick : PySem.W.keepIn K (.ref f__law_pick) = true)
    (a0__law_row : PySem.W.nsIn K mainGlobals "_law_row" = some (some (.ref f__law_row)))
    (l__law_row : K.lookup f__law_row = some ⟨oc__law_row, od__law_row, .func (PySem.W.fnOf "_law_row" "_law_row" (defArgs s_law_row) (defBody s_law_row) (defScope s_law_row) .none kV__law_row dc__law_row pm__law_row an__law_row cd__law_row ct__law_row), sl__law_row⟩)
    (c__law_row : PySem.W.codeIn K cd__law_row "_law_row" = true)
    (k__law_row : PySem.W.keepIn K (.ref f__law_row) = true)
    (a0__law_answer : PySem.W.nsIn K mainGlobals "_law_answer" = some (some (.ref f__law_answer)))
    (l__law_answer : K.lookup f__law_answer = some ⟨oc__law_answer, od__law_answer, .func (PySem.W.fnOf "_law_answer" "_law_answer" (defArgs s_law_answer) (defBody s_law_answer) (defScope s_law_answer) .none kV__law_answer dc__law_answer pm__law_answer an__law_answer cd__law_answer ct__law_answer), sl__law_answer⟩)
    (c__law_answer : PySem.W.codeIn K cd__law_answer "_law_answer" = true)
    (k__law_answer : PySem.W.keepIn K (.ref f__law_answer) = true)
    (a0__law_least : PySem.W.nsIn K mainGlobals "_law_least" = some (some (.ref f__law_least)))
    (l__law_least : K.lookup f__law_least = some ⟨oc__law_least, od__law_least, .func (PySem.W.fnOf "_law_least" "_law_least" (defArgs s_law_least) (defBody s_law_least) (defScope s_law_least) .none kV__law_least dc__law_least pm__law_least an__law_least cd__law_least ct__law_least), sl__law_least⟩)
    (c__law_least : PySem.W.codeIn K cd__law_least "_law_least" = true)
    (k__law_least : PySem.W.keepIn K (.ref f__law_least) = true)
    (a0__law_first : PySem.W.nsIn K mainGlobals "_law_first" = some (some (.ref f__law_first)))
    (l__law_first : K.lookup f__law_first = some ⟨oc__law_first, od__law_first, .func (PySem.W.fnOf "_law_first" "_law_first" (defArgs s_law_first) (defBody s_law_first) (defScope s_law_first) .none kV__law_first dc__law_first pm__law_first an__law_first cd__law_first ct__law_first), sl__law_first⟩)
    (c__law_first : PySem.W.codeIn K cd__law_first "_law_first" = true)
    (k__law_first : PySem.W.keepIn K (.ref f__law_first) = true)
    (a0__law_right : PySem.W.nsIn K mainGlobals "_law_right" = some (some (.ref f__law_right)))
    (l__law_right : K.lookup f__law_right = some ⟨oc__law_right, od__law_right, .func (PySem.W.fnOf "_law_right" "_law_right" (defArgs s_law_right) (defBody s_law_right) (defScope s_law_right) .none kV__law_right dc__law_right pm__law_right an__law_right cd__law_right ct__law_right), sl__law_right⟩)
    (c__law_right : PySem.W.codeIn K cd__law_right "_law_right" = true)
    (k__law_right : PySem.W.keepIn K (.ref f__law_right) = true)
    (a0_law : PySem.W.nsIn K mainGlobals "law" = some (some (.ref f_law)))
    (l_law : K.lookup f_law = some ⟨oc_law, od_law, .func (PySem.W.fnOf "law" "law" (defArgs slaw) (defBody slaw) (defScope slaw) .none kV_law dc_law pm_law an_law cd_law ct_law), sl_law⟩)
    (c_law : PySem.W.codeIn K cd_law "law" = true)
    (k_law : PySem.W.keepIn K (.ref f_law) = true)
    (z_len : PySem.W.nsIn K mainGlobals "len" = some none)
    (z_sum : PySem.W.nsIn K mainGlobals "sum" = some none)
    (z_all : PySem.W.nsIn K mainGlobals "all" = some none)
    (z_max : PySem.W.nsIn K mainGlobals "max" = some none)
    (z_min : PySem.W.nsIn K mainGlobals "min" = some none)
    (z_int : PySem.W.nsIn K mainGlobals "int" = some none)
    (z_bool : PySem.W.nsIn K mainGlobals "bool" = some none)
    (z_isinstance : PySem.W.nsIn K mainGlobals "isinstance" = some none)
    (z_range : PySem.W.nsIn K mainGlobals "range" = some none)
    (z_enumerate : PySem.W.nsIn K mainGlobals "enumerate" = some none)
    (z_zip : PySem.W.nsIn K mainGlobals "zip" = some none)
    (z_str : PySem.W.nsIn K mainGlobals "str" = some none)
    (z_tuple : PySem.W.nsIn K mainGlobals "tuple" = some none)
    (z_list : PySem.W.nsIn K mainGlobals "list" = some none) :
    ∃ fd : FuncData, (∀ (s : Shared) (v : Value), BindsTo s fd ⟨[v], []⟩ [("script", v)]) ∧ ∀ base : Heap, K.In base → base.Ns mainGlobals mg → FnOk l.prog w K mg base CX0 7 fa fd ["script"] (spLaw K) := by
  have T : Blt mg := ⟨PySem.W.mg_none_of X G z_len, PySem.W.mg_none_of X G z_sum, PySem.W.mg_none_of X G z_all, PySem.W.mg_none_of X G z_max, PySem.W.mg_none_of X G z_min, PySem.W.mg_none_of X G z_int, PySem.W.mg_none_of X G z_bool, PySem.W.mg_none_of X G z_isinstance, PySem.W.mg_none_of X G z_range, PySem.W.mg_none_of X G z_enumerate, PySem.W.mg_none_of X G z_zip, PySem.W.mg_none_of X G z_str, PySem.W.mg_none_of X G z_tuple, PySem.W.mg_none_of X G z_list⟩
  have N : Nums mg := ⟨⟩
  have F_single_ones := fun_mk (st := ssingle_ones) l_single_ones c_single_ones k_single_ones
  have b_single_ones := F_single_ones.binds (ps := ["mask"]) fun _ _ _ _ _ _ us hl => (by apply ln1 us hl; intro _; exact rfl)
  have F_ones_of := fun_mk (st := sones_of) l_ones_of c_ones_of k_ones_of
  have b_ones_of := F_ones_of.binds (ps := ["mask"]) fun _ _ _ _ _ _ us hl => (by apply ln1 us hl; intro _; exact rfl)
  have F_size_of := fun_mk (st := ssize_of) l_size_of c_size_of k_size_of
  have b_size_of := F_size_of.binds (ps := ["bits"]) fun _ _ _ _ _ _ us hl => (by apply ln1 us hl; intro _; exact rfl)
  have F_choices_agree := fun_mk (st := schoices_agree) l_choices_agree c_choices_agree k_choices_agree
  have b_choices_agree := F_choices_agree.binds (ps := ["mask", "want", "other_mask", "other_want"]) fun _ _ _ _ _ _ us hl => (by apply ln4 us hl; intro _ _ _ _; exact rfl)
  have F_latches_agree := fun_mk (st := slatches_agree) l_latches_agree c_latches_agree k_latches_agree
  have b_latches_agree := F_latches_agree.binds (ps := ["latch", "other"]) fun _ _ _ _ _ _ us hl => (by apply ln2 us hl; intro _ _; exact rfl)
  have F_rows_clash := fun_mk (st := srows_clash) l_rows_clash c_rows_clash k_rows_clash
  have b_rows_clash := F_rows_clash.binds (ps := ["row", "other"]) fun _ _ _ _ _ _ us hl => (by apply ln2 us hl; intro _ _; exact rfl)
  have F_least_words := fun_mk (st := sleast_words) l_least_words c_least_words k_least_words
  have b_least_words := F_least_words.binds (ps := ["row", "other"]) fun _ _ _ _ _ _ us hl => (by apply ln2 us hl; intro _ _; exact rfl)
  have F_clash_of := fun_mk (st := sclash_of) l_clash_of c_clash_of k_clash_of
  have b_clash_of := F_clash_of.binds (ps := ["rows"]) fun _ _ _ _ _ _ us hl => (by apply ln1 us hl; intro _; exact rfl)
  have F_meets := fun_mk (st := smeets) l_meets c_meets k_meets
  have b_meets := F_meets.binds (ps := ["row", "address"]) fun _ _ _ _ _ _ us hl => (by apply ln2 us hl; intro _ _; exact rfl)
  have F_is_awake := fun_mk (st := sis_awake) l_is_awake c_is_awake k_is_awake
  have b_is_awake := F_is_awake.binds (ps := ["row", "words"]) fun _ _ _ _ _ _ us hl => (by apply ln2 us hl; intro _ _; exact rfl)
  have F_answering := fun_mk (st := sanswering) l_answering c_answering k_answering
  have b_answering := F_answering.binds (ps := ["rows", "address", "words"]) fun _ _ _ _ _ _ us hl => (by apply ln3 us hl; intro _ _ _; exact rfl)
  have F_holes_among := fun_mk (st := sholes_among) l_holes_among c_holes_among k_holes_among
  have b_holes_among := F_holes_among.binds (ps := ["rows", "start", "size"]) fun _ _ _ _ _ _ us hl => (by apply ln3 us hl; intro _ _ _; exact rfl)
  have F_unanswered := fun_mk (st := sunanswered) l_unanswered c_unanswered k_unanswered
  have b_unanswered := F_unanswered.binds (ps := ["bits", "rows", "words"]) fun _ _ _ _ _ _ us hl => (by apply ln3 us hl; intro _ _ _; exact rfl)
  have F_least_hole := fun_mk (st := sleast_hole) l_least_hole c_least_hole k_least_hole
  have b_least_hole := F_least_hole.binds (ps := ["bits", "rows", "words"]) fun _ _ _ _ _ _ us hl => (by apply ln3 us hl; intro _ _ _; exact rfl)
  have F__law_feed := fun_mk (st := s_law_feed) l__law_feed c__law_feed k__law_feed
  have b__law_feed := F__law_feed.binds (ps := ["cell"]) fun _ _ _ _ _ _ us hl => (by apply ln1 us hl; intro _; exact rfl)
  have F__law_pick := fun_mk (st := s_law_pick) l__law_pick c__law_pick k__law_pick
  have b__law_pick := F__law_pick.binds (ps := ["feed", "many"]) fun _ _ _ _ _ _ us hl => (by apply ln2 us hl; intro _ _; exact rfl)
  have F__law_row := fun_mk (st := s_law_row) l__law_row c__law_row k__law_row
  have b__law_row := F__law_row.binds (ps := ["feed", "bits"]) fun _ _ _ _ _ _ us hl => (by apply ln2 us hl; intro _ _; exact rfl)
  have F__law_answer := fun_mk (st := s_law_answer) l__law_answer c__law_answer k__law_answer
  have b__law_answer := F__law_answer.binds (ps := ["rows", "address", "words"]) fun _ _ _ _ _ _ us hl => (by apply ln3 us hl; intro _ _ _; exact rfl)
  have F__law_least := fun_mk (st := s_law_least) l__law_least c__law_least k__law_least
  have b__law_least := F__law_least.binds (ps := ["rows"]) fun _ _ _ _ _ _ us hl => (by apply ln1 us hl; intro _; exact rfl)
  have F__law_first := fun_mk (st := s_law_first) l__law_first c__law_first k__law_first
  have b__law_first := F__law_first.binds (ps := ["rows", "many"]) fun _ _ _ _ _ _ us hl => (by apply ln2 us hl; intro _ _; exact rfl)
  have F__law_right := fun_mk (st := s_law_right) l__law_right c__law_right k__law_right
  have b__law_right := F__law_right.binds (ps := ["feed"]) fun _ _ _ _ _ _ us hl => (by apply ln1 us hl; intro _; exact rfl)
  have F_law := fun_mk (st := slaw) l_law c_law k_law
  have b_law := F_law.binds (ps := ["script"]) fun _ _ _ _ _ _ us hl => (by apply ln1 us hl; intro _; exact rfl)
  have e := hfa.symm.trans (PySem.W.mg_of X G a0_law)
  cases e
  refine ⟨PySem.W.fnOf "law" "law" (defArgs slaw) (defBody slaw) (defScope slaw) .none kV_law dc_law pm_law an_law cd_law ct_law, fun s v => .of_eq rfl, fun base _ _ => ?_⟩
  have G_single_ones : FnOk l.prog w K mg base CX0 1 f_single_ones _ ["mask"] spSingles := oksingle_ones F_single_ones T
  have C_single_ones : Cal l.prog w K mg base 1 "single_ones" ["mask"] spSingles := ⟨f_single_ones, _, G_single_ones, PySem.W.mg_of X G a0_single_ones, k_single_ones, b_single_ones⟩
  have G_ones_of : FnOk l.prog w K mg base CX0 2 f_ones_of _ ["mask"] spOnes := okones_of F_ones_of T C_single_ones
  have C_ones_of : Cal l.prog w K mg base 2 "ones_of" ["mask"] spOnes := ⟨f_ones_of, _, G_ones_of, PySem.W.mg_of X G a0_ones_of, k_ones_of, b_ones_of⟩
  have G_size_of : FnOk l.prog w K mg base CX0 1 f_size_of _ ["bits"] spSize := oksize_of F_size_of T
  have C_size_of : Cal l.prog w K mg base 1 "size_of" ["bits"] spSize := ⟨f_size_of, _, G_size_of, PySem.W.mg_of X G a0_size_of, k_size_of, b_size_of⟩
  have G_choices_agree : FnOk l.prog w K mg base CX0 1 f_choices_agree _ ["mask", "want", "other_mask", "other_want"] spAgr := okchoices_agree F_choices_agree T
  have C_choices_agree : Cal l.prog w K mg base 1 "choices_agree" ["mask", "want", "other_mask", "other_want"] spAgr := ⟨f_choices_agree, _, G_choices_agree, PySem.W.mg_of X G a0_choices_agree, k_choices_agree, b_choices_agree⟩
  have G_latches_agree : FnOk l.prog w K mg base CX0 2 f_latches_agree _ ["latch", "other"] spLatA := oklatches_agree F_latches_agree T C_choices_agree
  have C_latches_agree : Cal l.prog w K mg base 2 "latches_agree" ["latch", "other"] spLatA := ⟨f_latches_agree, _, G_latches_agree, PySem.W.mg_of X G a0_latches_agree, k_latches_agree, b_latches_agree⟩
  have G_rows_clash : FnOk l.prog w K mg base CX0 3 f_rows_clash _ ["row", "other"] spClash := okrows_clash F_rows_clash T C_choices_agree C_latches_agree
  have C_rows_clash : Cal l.prog w K mg base 3 "rows_clash" ["row", "other"] spClash := ⟨f_rows_clash, _, G_rows_clash, PySem.W.mg_of X G a0_rows_clash, k_rows_clash, b_rows_clash⟩
  have G_least_words : FnOk l.prog w K mg base CX0 1 f_least_words _ ["row", "other"] spLeast := okleast_words F_least_words T (PySem.W.mg_none_of X G zS)
  have C_least_words : Cal l.prog w K mg base 1 "least_words" ["row", "other"] spLeast := ⟨f_least_words, _, G_least_words, PySem.W.mg_of X G a0_least_words, k_least_words, b_least_words⟩
  have G_clash_of : FnOk l.prog w K mg base CX0 4 f_clash_of _ ["rows"] spClashOf := okclash_of F_clash_of T C_rows_clash C_least_words
  have C_clash_of : Cal l.prog w K mg base 4 "clash_of" ["rows"] spClashOf := ⟨f_clash_of, _, G_clash_of, PySem.W.mg_of X G a0_clash_of, k_clash_of, b_clash_of⟩
  have G_meets : FnOk l.prog w K mg base CX0 1 f_meets _ ["row", "address"] spMeet := okmeets F_meets T
  have C_meets : Cal l.prog w K mg base 1 "meets" ["row", "address"] spMeet := ⟨f_meets, _, G_meets, PySem.W.mg_of X G a0_meets, k_meets, b_meets⟩
  have G_is_awake : FnOk l.prog w K mg base CX0 1 f_is_awake _ ["row", "words"] spAwake := okis_awake F_is_awake T
  have C_is_awake : Cal l.prog w K mg base 1 "is_awake" ["row", "words"] spAwake := ⟨f_is_awake, _, G_is_awake, PySem.W.mg_of X G a0_is_awake, k_is_awake, b_is_awake⟩
  have G_answering : FnOk l.prog w K mg base CX0 2 f_answering _ ["rows", "address", "words"] spAnsw := okanswering F_answering T C_meets C_is_awake
  have C_answering : Cal l.prog w K mg base 2 "answering" ["rows", "address", "words"] spAnsw := ⟨f_answering, _, G_answering, PySem.W.mg_of X G a0_answering, k_answering, b_answering⟩
  have G_holes_among : FnOk l.prog w K mg base CX0 3 f_holes_among _ ["rows", "start", "size"] spHoles := okholes_among F_holes_among T C_ones_of
  have C_holes_among : Cal l.prog w K mg base 3 "holes_among" ["rows", "start", "size"] spHoles := ⟨f_holes_among, _, G_holes_among, PySem.W.mg_of X G a0_holes_among, k_holes_among, b_holes_among⟩
  have G_unanswered : FnOk l.prog w K mg base CX0 4 f_unanswered _ ["bits", "rows", "words"] spUnansw := okunanswered F_unanswered T C_is_awake C_size_of C_holes_among
  have C_unanswered : Cal l.prog w K mg base 4 "unanswered" ["bits", "rows", "words"] spUnansw := ⟨f_unanswered, _, G_unanswered, PySem.W.mg_of X G a0_unanswered, k_unanswered, b_unanswered⟩
  have G_least_hole : FnOk l.prog w K mg base CX0 4 f_least_hole _ ["bits", "rows", "words"] spLeastH := okleast_hole F_least_hole T C_is_awake C_size_of C_holes_among
  have C_least_hole : Cal l.prog w K mg base 4 "least_hole" ["bits", "rows", "words"] spLeastH := ⟨f_least_hole, _, G_least_hole, PySem.W.mg_of X G a0_least_hole, k_least_hole, b_least_hole⟩
  have G__law_feed : FnOk l.prog w K mg base CX0 1 f__law_feed _ ["cell"] spFeed := ok_law_feed F__law_feed T
  have C__law_feed : Cal l.prog w K mg base 1 "_law_feed" ["cell"] spFeed := ⟨f__law_feed, _, G__law_feed, PySem.W.mg_of X G a0__law_feed, k__law_feed, b__law_feed⟩
  have G__law_pick : FnOk l.prog w K mg base CX0 1 f__law_pick _ ["feed", "many"] spPick := ok_law_pick F__law_pick T
  have C__law_pick : Cal l.prog w K mg base 1 "_law_pick" ["feed", "many"] spPick := ⟨f__law_pick, _, G__law_pick, PySem.W.mg_of X G a0__law_pick, k__law_pick, b__law_pick⟩
  have G__law_row : FnOk l.prog w K mg base CX0 2 f__law_row _ ["feed", "bits"] spRow13 := ok_law_row F__law_row T C__law_pick
  have C__law_row : Cal l.prog w K mg base 2 "_law_row" ["feed", "bits"] spRow13 := ⟨f__law_row, _, G__law_row, PySem.W.mg_of X G a0__law_row, k__law_row, b__law_row⟩
  have G__law_answer : FnOk l.prog w K mg base CX0 1 f__law_answer _ ["rows", "address", "words"] spAnsL := ok_law_answer F__law_answer T
  have C__law_answer : Cal l.prog w K mg base 1 "_law_answer" ["rows", "address", "words"] spAnsL := ⟨f__law_answer, _, G__law_answer, PySem.W.mg_of X G a0__law_answer, k__law_answer, b__law_answer⟩
  have G__law_least : FnOk l.prog w K mg base CX0 1 f__law_least _ ["rows"] spLeast13 := ok_law_least F__law_least T
  have C__law_least : Cal l.prog w K mg base 1 "_law_least" ["rows"] spLeast13 := ⟨f__law_least, _, G__law_least, PySem.W.mg_of X G a0__law_least, k__law_least, b__law_least⟩
  have G__law_first : FnOk l.prog w K mg base CX0 2 f__law_first _ ["rows", "many"] spFirst := ok_law_first F__law_first T C__law_answer C__law_least
  have C__law_first : Cal l.prog w K mg base 2 "_law_first" ["rows", "many"] spFirst := ⟨f__law_first, _, G__law_first, PySem.W.mg_of X G a0__law_first, k__law_first, b__law_first⟩
  have G__law_right : FnOk l.prog w K mg base CX0 6 f__law_right _ ["feed"] spRight := ok_law_right F__law_right T C__law_pick C__law_row C__law_first C_clash_of C__law_answer C_answering C_unanswered C_least_hole
  have C__law_right : Cal l.prog w K mg base 6 "_law_right" ["feed"] spRight := ⟨f__law_right, _, G__law_right, PySem.W.mg_of X G a0__law_right, k__law_right, b__law_right⟩
  exact oklaw F_law T C__law_right C__law_feed
theorem walk {l : PySem.W.OpenLaw} {q : Program} {loose : List Str} {XP : (Str → Option Value) → Heap → Prop} {YP : World → Heap → Prop} {d : DefRec} {K : Params → PySem.W.Frag} (hn : l.most = some 63) (hdf : d.params.defaults = [])
    (hY : ∀ (w : World) (h : Heap), YP w h → (K w.params).In h)
    (F : ∀ (w : World) (mg : Str → Option Value) (fa : Addr) (h : Heap), (K w.params).In h → h.Ns mainGlobals mg → mg d.name = some (.ref fa) →
      ∃ fd : FuncData, (∀ (s : Shared) (u : Value), BindsTo s fd ⟨[u], []⟩ [("script", u)]) ∧ ∀ base : Heap, (K w.params).In base → base.Ns mainGlobals mg → FnOk l.prog w (K w.params) mg base CX0 7 fa fd ["script"] (spLaw (K w.params))) :
    PySem.W.WalkO q loose XP YP l.row.toRowW d [] (fun f vs => PySem.call f vs) :=
  L2.walk_ofB (n := 63) (k := 7) (x := "script") (CX := fun _ => CX0) (sp := fun w => spLaw (K w.params)) hn (by decide) hdf ⟨rfl, by decide, by decide⟩ hY F (fun _ _ a ns hl hb _ hS => ⟨a, ns, rfl, hS, hl, hb, fun _ => rfl⟩) fun _ _ _ _ _ z => z
end Cb
open PySem PySem.W PyProof.Rows
set_option maxRecDepth 100000 in
set_option maxHeartbeats 0 in
theorem PySem.Challenge.cw_chipbus_k13_whole_one_or_none_holds : PySem.Challenge.rw_chipbus_k13_whole_one_or_none.Holds := by
  w_on; o_law; k_head; (case hw => w_witness2)
  k_fill
  refine Cb.walk (l := PySem.Challenge.rw_chipbus_k13_whole_one_or_none) rfl rfl (fun w h Y => PySem.W.kIn_of Y) ?F
  case F =>
    intro w mg fa h KX G hmg
    refine' Cb.all_mk KX G hmg ?zS ?a0_single_ones ?l_single_ones ?c_single_ones ?k_single_ones ?a0_ones_of ?l_ones_of ?c_ones_of ?k_ones_of ?a0_size_of ?l_size_of ?c_size_of ?k_size_of ?a0_choices_agree ?l_choices_agree ?c_choices_agree ?k_choices_agree ?a0_latches_agree ?l_latches_agree ?c_latches_agree ?k_latches_agree ?a0_rows_clash ?l_rows_clash ?c_rows_clash ?k_rows_clash ?a0_least_words ?l_least_words ?c_least_words ?k_least_words ?a0_clash_of ?l_clash_of ?c_clash_of ?k_clash_of ?a0_meets ?l_meets ?c_meets ?k_meets ?a0_is_awake ?l_is_awake ?c_is_awake ?k_is_awake ?a0_answering ?l_answering ?c_answering ?k_answering ?a0_holes_among ?l_holes_among ?c_holes_among ?k_holes_among ?a0_unanswered ?l_unanswered ?c_unanswered ?k_unanswered ?a0_least_hole ?l_least_hole ?c_least_hole ?k_least_hole ?a0__law_feed ?l__law_feed ?c__law_feed ?k__law_feed ?a0__law_pick ?l__law_pick ?c__law_pick ?k__law_pick ?a0__law_row ?l__law_row ?c__law_row ?k__law_row ?a0__law_answer ?l__law_answer ?c__law_answer ?k__law_answer ?a0__law_least ?l__law_least ?c__law_least ?k__law_least ?a0__law_first ?l__law_first ?c__law_first ?k__law_first ?a0__law_right ?l__law_right ?c__law_right ?k__law_right ?a0_law ?l_law ?c_law ?k_law ?z_len ?z_sum ?z_all ?z_max ?z_min ?z_int ?z_bool ?z_isinstance ?z_range ?z_enumerate ?z_zip ?z_str ?z_tuple ?z_list
    (case zS => k_is)
    (case a0_single_ones => k_is)
    (case l_single_ones => k_is)
    (case c_single_ones => k_is)
    (case k_single_ones => k_is)
    (case a0_ones_of => k_is)
    (case l_ones_of => k_is)
    (case c_ones_of => k_is)
    (case k_ones_of => k_is)
    (case a0_size_of => k_is)
    (case l_size_of => k_is)
    (case c_size_of => k_is)
    (case k_size_of => k_is)
    (case a0_choices_agree => k_is)
    (case l_choices_agree => k_is)
    (case c_choices_agree => k_is)
    (case k_choices_agree => k_is)
    (case a0_latches_agree => k_is)
    (case l_latches_agree => k_is)
    (case c_latches_agree => k_is)
    (case k_latches_agree => k_is)
    (case a0_rows_clash => k_is)
    (case l_rows_clash => k_is)
    (case c_rows_clash => k_is)
    (case k_rows_clash => k_is)
    (case a0_least_words => k_is)
    (case l_least_words => k_is)
    (case c_least_words => k_is)
    (case k_least_words => k_is)
    (case a0_clash_of => k_is)
    (case l_clash_of => k_is)
    (case c_clash_of => k_is)
    (case k_clash_of => k_is)
    (case a0_meets => k_is)
    (case l_meets => k_is)
    (case c_meets => k_is)
    (case k_meets => k_is)
    (case a0_is_awake => k_is)
    (case l_is_awake => k_is)
    (case c_is_awake => k_is)
    (case k_is_awake => k_is)
    (case a0_answering => k_is)
    (case l_answering => k_is)
    (case c_answering => k_is)
    (case k_answering => k_is)
    (case a0_holes_among => k_is)
    (case l_holes_among => k_is)
    (case c_holes_among => k_is)
    (case k_holes_among => k_is)
    (case a0_unanswered => k_is)
    (case l_unanswered => k_is)
    (case c_unanswered => k_is)
    (case k_unanswered => k_is)
    (case a0_least_hole => k_is)
    (case l_least_hole => k_is)
    (case c_least_hole => k_is)
    (case k_least_hole => k_is)
    (case a0__law_feed => k_is)
    (case l__law_feed => k_is)
    (case c__law_feed => k_is)
    (case k__law_feed => k_is)
    (case a0__law_pick => k_is)
    (case l__law_pick => k_is)
    (case c__law_pick => k_is)
    (case k__law_pick => k_is)
    (case a0__law_row => k_is)
    (case l__law_row => k_is)
    (case c__law_row => k_is)
    (case k__law_row => k_is)
    (case a0__law_answer => k_is)
    (case l__law_answer => k_is)
    (case c__law_answer => k_is)
    (case k__law_answer => k_is)
    (case a0__law_least => k_is)
    (case l__law_least => k_is)
    (case c__law_least => k_is)
    (case k__law_least => k_is)
    (case a0__law_first => k_is)
    (case l__law_first => k_is)
    (case c__law_first => k_is)
    (case k__law_first => k_is)
    (case a0__law_right => k_is)
    (case l__law_right => k_is)
    (case c__law_right => k_is)
    (case k__law_right => k_is)
    (case a0_law => k_is)
    (case l_law => k_is)
    (case c_law => k_is)
    (case k_law => k_is)
    (case z_len => k_is)
    (case z_sum => k_is)
    (case z_all => k_is)
    (case z_max => k_is)
    (case z_min => k_is)
    (case z_int => k_is)
    (case z_bool => k_is)
    (case z_isinstance => k_is)
    (case z_range => k_is)
    (case z_enumerate => k_is)
    (case z_zip => k_is)
    (case z_str => k_is)
    (case z_tuple => k_is)
    (case z_list => k_is)
#print axioms PySem.Challenge.cw_chipbus_k13_whole_one_or_none_holds
