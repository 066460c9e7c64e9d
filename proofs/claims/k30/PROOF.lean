import PyProof.Rows.All
import Wide.All
import OpenK.AllK
import Wide.FinOn
import Lean
import PyProof.EqAt
import PyProof.EqKinds
import PyProof.TupleCall
import PyProof.NeKinds
import PyProof.DelItemList
import PyProof.StationsW
import PyProof.Rows.Own
import PyProof.RulesDel
import PyProof.RulesAs
import PyProof.ExcBaseAll.ValueError
import KE.KTryMore
import PyProof.ExcArgs
import KE.KIsAll
import PyProof.ListRange
import PyProof.Rows.RuleM_int
import PyProof.Draws
import PyProof.EnumMake
import KE.KDictSum
import KE.KItemsList
import KE.KSortTup
import PyProof.MinMaxWalk
import PyProof.WalkInts
import PyProof.CallTypeRange
import KE.KEqDict
import PyProof.FitsInt
import PyProof.Rows.StrNews
import KE.KIntText
import PyProof.StrWalks
import PyProof.Rows.StrRules
import KE.KUnpackStar
import PyProof.StrLawsTight
import PyProof.StrLawsChain
import PyProof.Rows.StrClose
import PySem.Challenge.RW_chipbus_k30_whole_equal_by_texts
section
set_option Elab.async false
set_option linter.all false
set_option maxRecDepth 100000
/-! THE HAND LAYER, for ints, bools, texts, own classes, LISTS and tuples (index, slices, in, append, pop ..), calls, loops. Paste it whole ahead of your own text; what your proof does not reach may be deleted. -/
namespace L2
open PySem PySem.Spec PyProof.Rows

/-- a key: an int or a str -/
abbrev Key := Sum Int Str
def keyIs : Key → Value → Bool
  | .inl k, v => Value.isInt k v
  | .inr x, v => Value.isStrOf x v
def keyH (w : World) : Key → Int
  | .inl k => hashInt k
  | .inr x => hashStr w x
theorem keyIs_shape : ∀ {k : Key} {v : Value}, keyIs k v = true → (∃ i t, k = Sum.inl i ∧ v = Value.int i t) ∨ (∃ x t, k = Sum.inr x ∧ v = Value.str x t)
  | .inl i, v, h => by
    obtain ⟨t, e⟩ := Value.isInt_shape (k := i) (v := v) h
    exact .inl ⟨i, t, rfl, e⟩
  | .inr x, v, h => by
    obtain ⟨t, e⟩ := Value.isStrOf_shape (x := x) (v := v) h
    exact .inr ⟨x, t, rfl, e⟩
theorem keyIs_int (i : Int) (t : Tok) : keyIs (.inl i) (.int i t) = true := by simp [keyIs, Value.isInt]
theorem keyIs_str (x : Str) (t : Tok) : keyIs (.inr x) (.str x t) = true := by simp [keyIs, Value.isStrOf]
theorem key_ll (a b : Int) : decide ((Sum.inl a : Key) = Sum.inl b) = (a == b) := by
  by_cases e : a = b
  · subst e; simp
  · have h : ¬ (Sum.inl a : Key) = Sum.inl b := fun q => e (Sum.inl.inj q)
    rw [decide_eq_false h]
    exact (beq_eq_false_iff_ne.mpr e).symm
theorem key_rr (a b : Str) : decide ((Sum.inr a : Key) = Sum.inr b) = decide (a = b) := by
  by_cases e : a = b
  · subst e; simp
  · have h : ¬ (Sum.inr a : Key) = Sum.inr b := fun q => e (Sum.inr.inj q)
    rw [decide_eq_false h, decide_eq_false e]
theorem key_lr (a : Int) (b : Str) : decide ((Sum.inl a : Key) = Sum.inr b) = false := decide_eq_false (fun q => nomatch q)
theorem key_rl (a : Str) (b : Int) : decide ((Sum.inr a : Key) = Sum.inl b) = false := decide_eq_false (fun q => nomatch q)

def mixKind (prog : Program) (w : World) : PySem.KeyKind prog w Key where
  is := keyIs
  hash := keyH w
  inj := fun v a b ha hb => by
    rcases keyIs_shape ha with ⟨i, t, rfl, rfl⟩ | ⟨x, t, rfl, rfl⟩
    · rcases keyIs_shape hb with ⟨j, u, rfl, e⟩ | ⟨y, u, rfl, e⟩
      · injection e with e1 _; rw [e1]
      · exact nomatch e
    · rcases keyIs_shape hb with ⟨j, u, rfl, e⟩ | ⟨y, u, rfl, e⟩
      · exact nomatch e
      · injection e with e1 _; rw [e1]
  byValue := fun k v h => by
    rcases keyIs_shape h with ⟨i, t, rfl, rfl⟩ | ⟨x, t, rfl, rfl⟩ <;> rfl
  pyHash := fun hv h => by
    rcases keyIs_shape hv with ⟨i, t, rfl, rfl⟩ | ⟨x, t, rfl, rfl⟩
    · exact wpAny_pyHash_int h
    · exact wpAny_pyHash_str h
  eqBool := fun hu hv h => by
    rcases keyIs_shape hu with ⟨i, t, rfl, rfl⟩ | ⟨x, t, rfl, rfl⟩
    · rcases keyIs_shape hv with ⟨j, u, rfl, rfl⟩ | ⟨y, u, rfl, rfl⟩
      · rw [key_ll] at h; exact wpAny_eqBool_int h
      · rw [key_lr] at h; exact SeqAt.EqAt.int_str i t y u _ _ _ _ h
    · rcases keyIs_shape hv with ⟨j, u, rfl, rfl⟩ | ⟨y, u, rfl, rfl⟩
      · rw [key_rl] at h; exact SeqAt.EqAt.str_int x t j u _ _ _ _ h
      · rw [key_rr] at h; exact wpAny_eqBool_str h
  «strs» := fun k x t v h => by
    rcases keyIs_shape h with ⟨i, u, rfl, e⟩ | ⟨y, u, rfl, e⟩
    · exact nomatch e
    · injection e with e1 _
      subst e1
      cases v <;> rfl

theorem mixKind_int (prog : Program) (w : World) (i : Int) (t : Tok) : (mixKind prog w).is (.inl i) (.int i t) = true := keyIs_int i t
theorem mixKind_str (prog : Program) (w : World) (x : Str) (t : Tok) : (mixKind prog w).is (.inr x) (.str x t) = true := keyIs_str x t
end L2

namespace L2
open PySem PySem.Spec PyProof.Rows

/-- a value, without the heap -/
inductive V where
  | non | bl (b : Bool) | int (i : Int) | str (x : Str) | byt (b : Array UInt8) | flt (b : UInt64) | ref (a : Addr) | ty (n : String)
  deriving DecidableEq

def RelV : V → Value → Prop
  | .non, u => u = Value.none
  | .bl b, u => u = Value.bool b
  | .int i, u => ∃ t, u = Value.int i t
  | .str x, u => ∃ t, u = Value.str x t
  | .byt b, u => ∃ t, u = Value.bytes b t
  | .flt b, u => ∃ t, u = Value.float b t
  | .ref a, u => u = Value.ref a
  | .ty n, u => u = Value.type n

abbrev Vals : List V → List Value → Prop := Paired RelV
theorem Vals.length {xs : List V} {us : List Value} (r : Vals xs us) : xs.length = us.length := Paired.length r
theorem Vals.get : ∀ {xs : List V} {us : List Value} {i : Nat} {x : V}, Vals xs us → xs[i]? = some x → ∃ u, us[i]? = some u ∧ RelV x u
  | _, _, _, _, .nil, e => by simp at e
  | _, _, 0, _, .cons r _, e => by simp at e; subst e; exact ⟨_, rfl, r⟩
  | _, _, i + 1, x, .cons _ t, e => by
    obtain ⟨u, h1, h2⟩ := Vals.get (i := i) (x := x) t (by simpa using e)
    exact ⟨u, by simpa using h1, h2⟩
theorem Vals.set {x : V} {u : Value} (r : RelV x u) : ∀ {xs : List V} {us : List Value} (i : Nat), Vals xs us → Vals (xs.set i x) (us.set i u)
  | _, _, _, .nil => .nil
  | _, _, 0, .cons _ t => .cons r t
  | _, _, i + 1, .cons q t => .cons q (Vals.set r i t)
theorem Vals.append : ∀ {xs ys : List V} {us ws : List Value}, Vals xs us → Vals ys ws → Vals (xs ++ ys) (us ++ ws)
  | _, _, _, _, .nil, s => s
  | _, _, _, _, .cons r t, s => .cons r (Vals.append t s)
theorem Vals.take : ∀ {xs : List V} {us : List Value} (n : Nat), Vals xs us → Vals (xs.take n) (us.take n)
  | _, _, 0, _ => .nil
  | _, _, _ + 1, .nil => .nil
  | _, _, n + 1, .cons r t => .cons r (Vals.take n t)
theorem Vals.drop : ∀ {xs : List V} {us : List Value} (n : Nat), Vals xs us → Vals (xs.drop n) (us.drop n)
  | _, _, 0, r => r
  | _, _, _ + 1, .nil => .nil
  | _, _, n + 1, .cons _ t => Vals.drop n t
def RelO : Option V → Option Value → Prop
  | some v, some u => RelV v u
  | none, none => True
  | _, _ => False
def KV {κ : Type} : List (κ × V) → List (κ × Value) → Prop := Paired fun (p : κ × V) (q : κ × Value) => p.1 = q.1 ∧ RelV p.2 q.2

/-- a key of a dict (00_mix): an int or a text -/
def kV : Key → V
  | .inl i => .int i
  | .inr x => .str x

/-- what stands at a tracked address -/
inductive HO where
  /-- a list -/
  | lst (xs : List V)
  /-- a tuple (never changes) -/
  | tup (xs : List V)
  /-- a dict whose keys are ints and texts; one whose keys are tuples of ints and texts (the empty one is both) -/
  | dK (kvs : List (Key × V)) | dT (kvs : List (List Key × V))
  /-- a set of ints: its members, its size -/
  | set (S : Int → Bool) (n : Nat)
  /-- an instance of the class at C, its dict at dx, its attributes -/
  | ins (C dx : Addr) (fs : List (Str × V))
  /-- the dict of the instance at x -/
  | own (x : Addr)
  /-- the dict of an exception -/
  | xd (fs : List (Str × V))
  /-- a bound method, f of x -/
  | met (f x : Addr)
  /-- a range object lo, lo + 1, .. below hi -/
  | rng (lo hi : Int)
  /-- a thing that is known to the object (the script; a dict while a loop walks it): read, never written while it is so -/
  | frz (o : Obj) (u : HO)
  /-- a code object's table -/
  | tbl (ps : Array Value)
  /-- any other thing, by what is true of its one object (a def of one's own: SetO a S n := HO.ext fun h => ..) -/
  | ext (φ : Heap → Prop)

abbrev Hp := Addr → Option HO
def upd (H : Hp) (a : Addr) (o : HO) : Hp := fun b => if b = a then some o else H b
theorem upd_same {H : Hp} {a : Addr} {o : HO} : upd H a o a = some o := by unfold upd; rw [if_pos rfl]
theorem upd_ne {H : Hp} {a b : Addr} {o : HO} (h : b ≠ a) : upd H a o b = H b := by unfold upd; rw [if_neg h]
theorem ne_of_none {H : Hp} {a b : Addr} {o : HO} (h : H a = some o) (h' : H b = none) : a ≠ b := by
  intro e; subst e; rw [h] at h'; cases h'

section
variable (P : Program) (w : World)
def ObjOk (H : Hp) (h : Heap) (a : Addr) : HO → Prop
  | .lst xs => xs.length ≤ sizeLine ∧ ∃ (its : List Value) (n : Nat), Vals xs its ∧ h.get? a = some { cls := .type "list", data := .seq its.toArray n }
  | .tup xs => xs.length ≤ sizeLine ∧ ∃ its : List Value, Vals xs its ∧ IsTup h a its.toArray
  | .dK kvs => kvs.length ≤ sizeLine ∧ (a == sysModules) = false ∧ ∃ vs, KV kvs vs ∧ h.DictOf (mixKind P w) a vs
  | .dT kvs => kvs.length ≤ sizeLine ∧ (a == sysModules) = false ∧ ∃ xs : List (List Key × Addr × Value),
      Paired (fun (p : List Key × V) (q : List Key × Addr × Value) => p.1 = q.1 ∧ H q.2.1 = some (.tup (p.1.map kV)) ∧ RelV p.2 q.2.2) kvs xs ∧
      ∃ o es ep, h.get? a = some o ∧ o.ExactDict ∧ o.data = .dict es ep ∧ es.toList = xs.map (entryOfKey (tupleKind (mixKind P w))) ∧ (xs.map (·.1)).Nodup
  | .set S n => h.SetOf (intKind P w) a S n
  | .ins C dx fs => H dx = some (.own a) ∧ fs.length ≤ 1000 ∧ dx ≠ a ∧ h.get? a = some (PySem.W.instObj C dx) ∧
      ∃ mA, h.Ns1 dx mA ∧ (∀ f, RelO (fs.lookup f) (mA f)) ∧ PySem.Within mA (fs.map (·.1))
  | .own _ => ∃ o, h.get? a = some o
  | .xd fs => ∃ mA, h.Ns1 a mA ∧ ∀ f, RelO (fs.lookup f) (mA f)
  | .rng lo hi => ∃ t u v, h.get? a = some { cls := .type "range", data := .fields #[.int lo t, .int hi u, .int 1 v] }
  | .frz o u => h.get? a = some o ∧ ObjOk H h a u
  | .tbl ps => h.get? a = some { cls := .none, data := .fields ps }
  | .met f x => h.get? a = some (PySem.W.methodObj (.ref f) (.ref x))
  | .ext φ => φ h ∧ (∃ o, h.get? a = some o) ∧ ∀ h1 h2 : Heap, φ h1 → (∀ o, h1.get? a = some o → h2.get? a = some o) → φ h2
/-- the abstract heap is held -/
def HOk (H : Hp) (h : Heap) : Prop := ∀ a o, H a = some o → ObjOk P w H h a o
end

section
variable {P : Program} {w : World} {H H' : Hp} {h h' : Heap} {a : Addr} {o : HO}
theorem ObjOk.lt (x : ObjOk P w H h a o) : a < h.objs.size := by
  cases o with
  | lst xs => obtain ⟨_, _, _, _, e⟩ := x; exact Heap.lt_size e
  | tup xs => obtain ⟨_, _, _, p⟩ := x; exact p.lt
  | dK kvs => obtain ⟨_, _, _, _, o, _, _, e, _⟩ := x; exact Heap.lt_size e
  | dT kvs => obtain ⟨_, _, _, _, o, _, _, e, _⟩ := x; exact Heap.lt_size e
  | set S n => obtain ⟨o, _, _, _, e, _⟩ := x; exact Heap.lt_size e
  | ins C dx fs => obtain ⟨_, _, _, e, _⟩ := x; exact Heap.lt_size e
  | own y => obtain ⟨_, e⟩ := x; exact Heap.lt_size e
  | xd fs => obtain ⟨_, ⟨_, _, _, e, _⟩, _⟩ := x; exact Heap.lt_size e
  | rng lo hi => obtain ⟨_, _, _, e⟩ := x; exact Heap.lt_size e
  | frz ob u => obtain ⟨e, _⟩ := x; exact Heap.lt_size e
  | tbl ps => exact Heap.lt_size (show h.get? a = some _ from x)
  | met f y => exact Heap.lt_size (show h.get? a = some _ from x)
  | ext φ => obtain ⟨_, ⟨_, e⟩, _⟩ := x; exact Heap.lt_size e
theorem Paired.mapP {α β : Type} {F G : α → β → Prop} : ∀ {l₁ : List α} {l₂ : List β}, Paired F l₁ l₂ → (∀ a b, F a b → G a b) → Paired G l₁ l₂
  | _, _, .nil, _ => .nil
  | _, _, .cons r t, f => .cons (f _ _ r) (Paired.mapP t f)
/-- what an object's description leans on: its own object, its own dict, the tuples -/
theorem ObjOk.stay (x : ObjOk P w H h a o) (k : ∀ b u, (b = a ∨ H b = some (.own a)) → h.get? b = some u → h'.get? b = some u)
    (ho : ∀ b, H b = some (.own a) → H' b = some (.own a)) (ht : ∀ b xs, H b = some (.tup xs) → H' b = some (.tup xs)) : ObjOk P w H' h' a o := by
  induction o with
  | lst xs => obtain ⟨z, its, n, r, e⟩ := x; exact ⟨z, its, n, r, k _ _ (.inl rfl) e⟩
  | tup xs => obtain ⟨z, its, r, ob, e, c⟩ := x; exact ⟨z, its, r, ob, k _ _ (.inl rfl) e, c⟩
  | dK kvs => obtain ⟨z, y, vs, r, ob, es, ep, e, c⟩ := x; exact ⟨z, y, vs, r, ob, es, ep, k _ _ (.inl rfl) e, c⟩
  | dT kvs =>
    obtain ⟨z, y, xs, r, ob, es, ep, e, c⟩ := x
    exact ⟨z, y, xs, Paired.mapP r fun p q z => ⟨z.1, ht _ _ z.2.1, z.2.2⟩, ob, es, ep, k _ _ (.inl rfl) e, c⟩
  | set S n => obtain ⟨ob, es, ep, t, e, c⟩ := x; exact ⟨ob, es, ep, t, k _ _ (.inl rfl) e, c⟩
  | ins C dx fs =>
    obtain ⟨d, z, ne, e, mA, ⟨od, es, ep, e2, c⟩, r⟩ := x
    exact ⟨ho _ d, z, ne, k _ _ (.inl rfl) e, mA, ⟨od, es, ep, k _ _ (.inr d) e2, c⟩, r⟩
  | own y => obtain ⟨ob, e⟩ := x; exact ⟨ob, k _ _ (.inl rfl) e⟩
  | xd fs => obtain ⟨mA, ⟨od, es, ep, e, c⟩, r⟩ := x; exact ⟨mA, ⟨od, es, ep, k _ _ (.inl rfl) e, c⟩, r⟩
  | rng lo hi => obtain ⟨t, u, v, e⟩ := x; exact ⟨t, u, v, k _ _ (.inl rfl) e⟩
  | frz ob u ih => obtain ⟨e, q⟩ := x; exact ⟨k _ _ (.inl rfl) e, ih q⟩
  | tbl ps =>
    have e : h.get? a = some { cls := .none, data := .fields ps } := x
    show h'.get? a = some { cls := .none, data := .fields ps }
    exact k a _ (.inl rfl) e
  | met f y =>
    have e : h.get? a = some (PySem.W.methodObj (.ref f) (.ref y)) := x
    show h'.get? a = some (PySem.W.methodObj (.ref f) (.ref y))
    exact k a _ (.inl rfl) e
  | ext φ => obtain ⟨p, ⟨o, e⟩, st⟩ := x; exact ⟨st _ _ p fun o q => k _ _ (.inl rfl) q, ⟨o, k _ _ (.inl rfl) e⟩, st⟩
theorem HOk.lt (x : HOk P w H h) (e : H a = some o) : a < h.objs.size := (x a o e).lt
theorem HOk.fresh (x : HOk P w H h) (e : h.objs.size ≤ a) : H a = none := by
  cases q : H a with
  | none => rfl
  | some u => exact absurd (Nat.lt_of_lt_of_le (x.lt q) e) (Nat.lt_irrefl _)
/-- every object of the heap is kept -/
theorem HOk.kept (x : HOk P w H h) (k : ∀ b u, h.get? b = some u → h'.get? b = some u) : HOk P w H h' := fun a o e =>
  (x a o e).stay (fun b u _ q => k b u q) (fun _ q => q) fun _ _ q => q
/-- a new object is laid and tracked -/
theorem HOk.laid (x : HOk P w H h) (k : ∀ b u, h.get? b = some u → h'.get? b = some u) (hp : h.objs.size ≤ a) (new : ObjOk P w (upd H a o) h' a o) : HOk P w (upd H a o) h' := fun b u e => by
  have hn := x.fresh hp
  by_cases hb : b = a
  · subst hb; rw [upd_same] at e; cases e; exact new
  · rw [upd_ne hb] at e
    exact (x b u e).stay (fun c v _ q => k c v q) (fun c q => by rw [upd_ne (ne_of_none q hn)]; exact q) fun c xs q => by rw [upd_ne (ne_of_none q hn)]; exact q
end

/-- what may be read as u: it is u, or a known u -/
def Rd (H : Hp) (a : Addr) (u : HO) : Prop := H a = some u ∨ ∃ o, H a = some (.frz o u)
theorem Rd.ok {P : Program} {w : World} {H : Hp} {h : Heap} {a : Addr} {u : HO} (r : Rd H a u) (x : HOk P w H h) : ObjOk P w H h a u := by
  rcases r with r | ⟨o, r⟩
  · exact x a u r
  · obtain ⟨_, q⟩ := x a _ r
    exact q
/-- what may be written -/
def Mut : Option HO → Prop
  | some (.lst _) => True
  | some (.dK _) => True
  | some (.dT _) => True
  | some (.set _ _) => True
  | some (.ins _ _ _) => True
  | some (.ext _) => True
  | _ => False
section
variable {P : Program} {w : World} {H : Hp} {h h' : Heap} {x e : Addr} {o' : HO}
/-- the object at e is changed: x itself, or the dict of the instance x -/
theorem HOk.write (ok : HOk P w H h) (mu : Mut (H x)) (he : e = x ∨ H e = some (.own x)) (k : ∀ b u, b ≠ e → h.get? b = some u → h'.get? b = some u) (heo : ∃ u, h'.get? e = some u)
    (new : ObjOk P w (upd H x o') h' x o') : HOk P w (upd H x o') h' := fun b u q => by
  have nown : ∀ c y, H c = some (.own y) → c ≠ x := fun c y r z => by subst z; rw [r] at mu; exact mu
  have ntup : ∀ c xs, H c = some (.tup xs) → c ≠ x := fun c xs r z => by subst z; rw [r] at mu; exact mu
  by_cases hb : b = x
  · subst hb; rw [upd_same] at q; cases q; exact new
  · rw [upd_ne hb] at q
    by_cases hbe : b = e
    · have q' : H b = some (.own x) := by
        rcases he with z | z
        · exact absurd (hbe.trans z) hb
        · rw [hbe]; exact z
      rw [q] at q'; cases q'
      obtain ⟨v, hv⟩ := heo
      exact ⟨v, by rw [hbe]; exact hv⟩
    · refine (ok b u q).stay (fun c v hc r => k c v ?_ r) (fun c r => by rw [upd_ne (nown c b r)]; exact r) fun c xs r => by rw [upd_ne (ntup c xs r)]; exact r
      rcases hc with rfl | hc
      · exact hbe
      · rintro rfl
        rcases he with z | z
        · exact nown c b hc z
        · rw [hc] at z; cases z; exact hb rfl
end

/-! ### kept unless tracked; of the frames at fs (the callers') the slots may change (an exception that passes writes there); of the records at ex (iterators) nothing is said -/
structure Un (fs ex : List Addr) (H H' : Hp) (h h' : Heap) : Prop where
  keep : ∀ b o, h.get? b = some o → H b = none → b ∉ fs → b ∉ ex → h'.get? b = some o
  slot : ∀ b o, h.get? b = some o → H b = none → b ∈ fs → b ∉ ex → ∃ sl, h'.get? b = some { o with slots := sl }
  free : ∀ b o, h.get? b = some o → H b = none → b ∉ ex → H' b = none
  there : ∀ b o, h.get? b = some o → b ∉ ex → ∃ o', h'.get? b = some o'
  tups : ∀ b xs, H b = some (.tup xs) → H' b = some (.tup xs)
  frzs : ∀ b o u, H b = some (.frz o u) → H' b = some (.frz o u)
  tbls : ∀ b ps, H b = some (.tbl ps) → ∃ more, H' b = some (.tbl (ps ++ more))
section
variable {fs fs' ex ex' : List Addr} {H H1 H2 : Hp} {h h1 h2 h' : Heap} {a x e : Addr} {o : HO}
theorem Un.any (u : Un fs ex H H1 h h1) {b : Addr} {ob : Obj} (q : h.get? b = some ob) (n : H b = none) (hx : b ∉ ex) : ∃ sl, h1.get? b = some { ob with slots := sl } := by
  by_cases hb : b ∈ fs
  · exact u.slot b ob q n hb hx
  · exact ⟨ob.slots, u.keep b ob q n hb hx⟩
theorem Un.kept (k : ∀ b u, h.get? b = some u → h'.get? b = some u) : Un fs ex H H h h' :=
  ⟨fun b ob q _ _ _ => k b ob q, fun b ob q _ _ _ => ⟨ob.slots, k b ob q⟩, fun _ _ _ n _ => n, fun b ob q _ => ⟨ob, k b ob q⟩, fun _ _ q => q, fun _ _ _ q => q, fun _ ps q => ⟨#[], by rw [q]; simp⟩⟩
theorem Un.refl : Un fs ex H H h h := Un.kept fun _ _ q => q
theorem Un.laid (k : ∀ b u, h.get? b = some u → h'.get? b = some u) (hp : h.objs.size ≤ a) (hn : H a = none) : Un fs ex H (upd H a o) h h' where
  keep := fun b u q _ _ _ => k b u q
  slot := fun b u q _ _ _ => ⟨u.slots, k b u q⟩
  free := fun b u q n _ => by rw [upd_ne (Nat.ne_of_lt (Nat.lt_of_lt_of_le (Heap.lt_size q) hp))]; exact n
  there := fun b u q _ => ⟨u, k b u q⟩
  tups := fun b xs q => by rw [upd_ne (ne_of_none q hn)]; exact q
  frzs := fun b u xs q => by rw [upd_ne (ne_of_none q hn)]; exact q
  tbls := fun b ps q => ⟨#[], by rw [upd_ne (ne_of_none q hn), q]; simp⟩
theorem Un.write (mu : Mut (H x)) (he : e = x ∨ H e = some (.own x)) (k : ∀ b u, b ≠ e → h.get? b = some u → h'.get? b = some u) (heo : ∃ u, h'.get? e = some u) : Un fs ex H (upd H x o) h h' := by
  have hx : ∀ b, H b = none → b ≠ x := fun b n z => by subst z; rw [n] at mu; exact mu
  have hb : ∀ b, H b = none → b ≠ e := fun b n z => by
    subst z
    rcases he with r | r
    · exact hx b n r
    · rw [n] at r; cases r
  have hm : ∀ b u, H b = some u → ¬ Mut (some u) → b ≠ x := fun b u q nm z => by subst z; rw [q] at mu; exact nm mu
  refine ⟨fun b u q n _ _ => k b u (hb b n) q, fun b u q n _ _ => ⟨u.slots, k b u (hb b n) q⟩, fun b u q n _ => by rw [upd_ne (hx b n)]; exact n, fun b u q _ => ?_,
    fun b xs q => by rw [upd_ne (hm b _ q fun z => z)]; exact q, fun b u xs q => by rw [upd_ne (hm b _ q fun z => z)]; exact q, fun b ps q => ⟨#[], by rw [upd_ne (hm b _ q fun z => z), q]; simp⟩⟩
  by_cases hbe : b = e
  · subst hbe; exact heo
  · exact ⟨u, k b u hbe q⟩
end

/-! ### the heap without what is tracked -/
def trk (h : Heap) (H : Hp) : List Addr := (List.range h.objs.size).filter fun a => (H a).isSome
def hidT (h : Heap) (H : Hp) : Heap := PySem.W.hideAll h (trk h H)
theorem hidT_size (h : Heap) (H : Hp) : (hidT h H).objs.size = h.objs.size := PySem.W.hideAll_size _ _
theorem hidT_get {h : Heap} {H : Hp} {b : Addr} {o : Obj} (e : h.get? b = some o) (n : H b = none) : (hidT h H).get? b = some o :=
  PySem.W.hideAll_get _ e fun hm => by
    have q : (H b).isSome = true := (List.mem_filter.mp hm).2
    rw [n] at q; simp at q
theorem of_hidT {h : Heap} {H : Hp} {b : Addr} {o : Obj} (e : (hidT h H).get? b = some o) : h.get? b = some o ∧ H b = none := by
  have e' : h.get? b = some o := PySem.W.of_hideAll (trk h H) e
  refine ⟨e', ?_⟩
  cases q : H b with
  | none => rfl
  | some x =>
    have hm : b ∈ trk h H := List.mem_filter.mpr ⟨List.mem_range.mpr (Heap.lt_size e'), by simp [q]⟩
    have z : (hidT h H).get? b = none := PySem.W.hideAll_none (trk h H) hm
    rw [z] at e; cases e

/-! ### OpenK's ledger, filled with every new object but one -/
def allNews (g h : Heap) (L : Addr) : List (Addr × Obj) := (List.range h.objs.size).filterMap fun a => if a = L ∨ (g.get? a).isSome = true then none else (h.get? a).map fun o => (a, o)
def rest (g h : Heap) (L d : Addr) : List (Addr × Obj) := (allNews g h L).filter fun p => decide (p.1 ≠ d)
end L2

namespace L2
open PySem PySem.Spec PyProof.Rows

/-- the module's facts, over the base: the heap at the law's entry without what is tracked there -/
structure Mod (K : PySem.W.Frag) (mg : Str → Option Value) (base : Heap) : Prop where
  kin : K.In base
  glob : base.Ns mainGlobals mg
  blt : ∃ mb, base.Ns builtinsNs mb ∧ ∀ x : Str, x ≠ "__name__" → mb x = bootBuiltins x
  nolimit : base.NoLimit

/-- the context: a def's body (or a comprehension's block) running. base: fixed through the whole law; s₀, H₀: the entry; outer: the frames whose slots others may change (a def's callers); stack: all frames that run;
   ex: iterators that were made ahead of the entry and are walked here (a comprehension's); fn: the names whose cells were made at the entry (a def: all; a comprehension's block: its own); calm: not within an except suite; pn: pins that every state bears; xe: what is wanted of an exception that leaves the code -/
structure Cx where
  prog : Program
  w : World
  K : PySem.W.Frag
  mg : Str → Option Value
  base : Heap
  A : Around
  N : List Str
  s₀ : Shared
  H₀ : Hp
  env : Env
  outer : List Env
  stack : List Env
  ex : List Addr
  fn : Str → Bool
  calm : Bool
  pn : List (Addr × Obj)
  xe : Value → Shared → Prop
/-- the callers' frames -/
def frs (l : List Env) : List Addr := l.filterMap (·.frame)
abbrev Cx.fs (X : Cx) : List Addr := frs X.outer

def Vis (sc : Scope) (x : Str) : Prop := sc.names.lookup x = some .local ∨ sc.names.lookup x = some .cell ∨ sc.names.lookup x = some .free
def Loc (sc : Scope) (x : Str) : Prop := sc.names.lookup x = some .local ∨ sc.names.lookup x = some .cell
def Look (env : Env) (h : Heap) (m : Str → Option Value) (x : Str) (u : Value) : Prop :=
  (env.kindOf x = some .local ∧ m x = some u) ∨ ((env.kindOf x = some .cell ∨ env.kindOf x = some .free) ∧ ∃ c, env.cells.lookup x = some c ∧ h.IsCell c (some u))

structure Cx.Ok (X : Cx) : Prop where
  mod : Mod X.K X.mg X.base
  kind : X.env.scope.kind = .function
  glob : X.env.globals = mainGlobals
  blt : X.env.builtins = builtinsNs
  above : X.s₀.heap.objs.size ≤ X.env.locals
  inj : ∀ x y c, X.env.cells.lookup x = some c → X.env.cells.lookup y = some c → x = y
  has : ∀ x, (X.env.kindOf x = some .cell ∨ X.env.kindOf x = some .free) → ∃ c, X.env.cells.lookup x = some c
  cab : ∀ x c, X.fn x = true → X.env.cells.lookup x = some c → X.s₀.heap.objs.size ≤ c
  hd : X.calm = true → X.A.handled = none
  frames : X.A.frames = some X.stack
  stk : X.stack = X.outer ∨ (X.stack = X.env :: X.outer ∧ X.env.frame = some X.env.locals)
  exf : ∀ b ∈ X.ex, b ≠ X.env.locals ∧ ∀ x c, X.env.cells.lookup x = some c → c ≠ b
  bs : ∀ b o, X.base.get? b = some o → X.s₀.heap.get? b = some o ∧ X.H₀ b = none
  bsz : X.base.objs.size ≤ X.s₀.heap.objs.size
  noex : ∀ b o, X.base.get? b = some o → b ∉ X.ex
  exfs : ∀ b ∈ X.ex, b ∉ X.fs
  funs : X.s₀.heap.FunFrames X.base X.outer
  frf : ∀ b ∈ X.fs, X.H₀ b = none

structure Inv (X : Cx) (pins : List (Addr × Obj)) (σ : List (Option V)) (H : Hp) (s : Shared) : Prop where
  ok : X.Ok
  os : s.os = X.s₀.os
  bare : AllBare s.gens
  base : Un X.fs X.ex X.H₀ H X.s₀.heap s.heap
  loc : ∃ m, s.heap.Ns X.env.locals m ∧ ∀ (i : Nat) (x : Str) (v : V), X.N[i]? = some x → σ[i]? = some (some v) → Vis X.env.scope x → ∃ u, RelV v u ∧ Look X.env s.heap m x u
  cell : ∀ x c, X.env.cells.lookup x = some c → ∃ v, s.heap.IsCell c v
  free : H X.env.locals = none
  freeC : ∀ x c, X.env.cells.lookup x = some c → H c = none
  pin : ∀ p ∈ X.pn ++ pins, s.heap.get? p.1 = some p.2 ∧ H p.1 = none ∧ p.1 ≠ X.env.locals ∧ p.1 ∉ X.fs ∧ ∀ v, p.2.data ≠ .cell v
  hok : HOk X.prog X.w H s.heap
  len : σ.length = X.N.length

section
variable {X : Cx} {pins : List (Addr × Obj)} {σ : List (Option V)} {H H' : Hp} {s : Shared} {h' : Heap}

theorem Cx.Ok.nofr (ok : X.Ok) {b : Addr} {o : Obj} (e : X.base.get? b = some o) : b ∉ X.fs := fun hb => by
  have := (ok.funs.mem hb).1
  rw [e] at this; cases this
theorem Inv.bs (I : Inv X pins σ H s) : ∀ b o, X.base.get? b = some o → s.heap.get? b = some o ∧ H b = none := fun b o e =>
  ⟨I.base.keep b o (I.ok.bs b o e).1 (I.ok.bs b o e).2 (I.ok.nofr e) (I.ok.noex b o e), I.base.free b o (I.ok.bs b o e).1 (I.ok.bs b o e).2 (I.ok.noex b o e)⟩
theorem Inv.bk (I : Inv X pins σ H s) : ∀ b o, X.base.get? b = some o → s.heap.get? b = some o := fun b o e => (I.bs b o e).1
theorem Inv.mod (I : Inv X pins σ H s) : Mod X.K X.mg X.base := I.ok.mod
theorem Inv.kIn (I : Inv X pins σ H s) : X.K.In s.heap := I.ok.mod.kin.keeps I.bk
/-- the frame over the base: for OpenK's rules (K.In X.base is I.mod.kin) -/
theorem Inv.fr (I : Inv X pins σ H s) : ∃ m, Fr X.base X.env.locals s.heap m :=
  let ⟨m, hn, _⟩ := I.loc
  ⟨m, hn, I.bk, Nat.le_trans I.ok.bsz I.ok.above⟩
theorem Inv.lt (I : Inv X pins σ H s) : X.env.locals < s.heap.objs.size := let ⟨_, hn, _⟩ := I.loc; hn.lt
theorem Inv.sz (I : Inv X pins σ H s) : X.s₀.heap.objs.size ≤ s.heap.objs.size := Nat.le_trans I.ok.above (Nat.le_of_lt I.lt)
theorem Inv.nofs (I : Inv X pins σ H s) {a : Addr} (h : s.heap.objs.size ≤ a) : a ∉ X.fs := fun hb => by
  obtain ⟨_, o, ho, _⟩ := I.ok.funs.mem hb
  exact absurd (Nat.lt_of_lt_of_le (Heap.lt_size ho) (Nat.le_trans I.sz h)) (Nat.lt_irrefl _)
theorem Inv.cne (I : Inv X pins σ H s) : ∀ x c, X.env.cells.lookup x = some c → c ≠ X.env.locals := fun x c e z => by
  obtain ⟨v, o, ho, hd⟩ := I.cell x c e
  obtain ⟨m, ⟨o', es, ep, ho', hd', _⟩, _⟩ := I.loc
  rw [z, ho'] at ho; cases ho; rw [hd'] at hd; cases hd
theorem Inv.funs (I : Inv X pins σ H s) : s.heap.FunFrames X.base X.outer := by
  have all : ∀ (l : List Env), (∀ b ∈ frs l, b ∈ X.fs) → X.s₀.heap.FunFrames X.base l → s.heap.FunFrames X.base l := by
    intro l
    induction l with
    | nil => intro _ _; trivial
    | cons env r ih =>
      intro hs hl
      obtain ⟨hk, ⟨L, o, hf, hn, ho, hd⟩, hr⟩ := hl
      have hL : L ∈ X.fs := hs L (by unfold frs; rw [List.filterMap_cons, hf]; exact List.mem_cons_self)
      obtain ⟨sl, e⟩ := I.base.slot L o ho (I.ok.frf L hL) hL fun z => I.ok.exfs L z hL
      exact ⟨hk, ⟨L, _, hf, hn, e, hd⟩, ih (fun b hb => hs b (by unfold frs; rw [List.filterMap_cons, hf]; exact List.mem_cons_of_mem _ hb)) hr⟩
  exact all X.outer (fun _ hb => hb) I.ok.funs

/-- the frames that run, for a call -/
theorem Inv.stack (I : Inv X pins σ H s) : s.heap.FunFrames X.base X.stack := by
  rcases I.ok.stk with e | ⟨e, hf⟩
  · rw [e]; exact I.funs
  · rw [e]
    obtain ⟨m, hn, _⟩ := I.loc
    refine .cons (by rw [I.ok.kind]; decide) hf hn ?_ I.funs
    exact Heap.get?_none_of_le (Nat.le_trans I.ok.bsz I.ok.above)
theorem Inv.stkSub (I : Inv X pins σ H s) : ∀ b ∈ frs X.stack, b ∈ X.env.locals :: X.fs := fun b hb => by
  rcases I.ok.stk with e | ⟨e, hf⟩
  · rw [e] at hb; exact List.mem_cons_of_mem _ hb
  · rw [e] at hb
    unfold frs at hb
    rw [List.filterMap_cons, hf] at hb
    exact hb
theorem Inv.stkFree (I : Inv X pins σ H s) : ∀ b ∈ frs X.stack, H b = none := fun b hb => by
  rcases List.mem_cons.mp (I.stkSub b hb) with e | hb
  · rw [e]; exact I.free
  · obtain ⟨_, o, ho, _⟩ := I.ok.funs.mem hb
    exact I.base.free b o ho (I.ok.frf b hb) fun z => I.ok.exfs b z hb

/-- THE STEP: the untracked objects but the frame and the records at ch are kept (the callers' frames up to slots), the frame's map is kept, the new abstract heap is held -/
theorem Inv.step {g' : Array GenState} {t' : Nat} {d' : Drawn} {ch : List Addr} (I : Inv X pins σ H s)
    (hch : ∀ b ∈ ch, (b ∈ X.ex ∨ X.s₀.heap.objs.size ≤ b) ∧ b ≠ X.env.locals ∧ (∀ x c, X.env.cells.lookup x = some c → c ≠ b) ∧ ∀ p ∈ X.pn ++ pins, p.1 ≠ b)
    (keep : ∀ b o, b ≠ X.env.locals → b ∉ X.fs → b ∉ ch → s.heap.get? b = some o → H b = none → h'.get? b = some o)
    (slot : ∀ b o, b ≠ X.env.locals → b ∈ X.fs → b ∉ ch → s.heap.get? b = some o → H b = none → ∃ sl, h'.get? b = some { o with slots := sl }) (free : ∀ b o, b ∉ ch → s.heap.get? b = some o → H b = none → H' b = none)
    (there : ∀ b o, b ∉ ch → s.heap.get? b = some o → ∃ o', h'.get? b = some o')
    (tups : ∀ b xs, H b = some (.tup xs) → H' b = some (.tup xs)) (frzs : ∀ b o u, H b = some (.frz o u) → H' b = some (.frz o u)) (tbls : ∀ b ps, H b = some (.tbl ps) → ∃ more, H' b = some (.tbl (ps ++ more)))
    (ns : ∀ m, s.heap.Ns X.env.locals m → h'.Ns X.env.locals m) (hok : HOk X.prog X.w H' h') (hg : AllBare g') :
    Inv X pins σ H' { s with heap := h', gens := g', drawn := d', toks := t' } := by
  have neL : ∀ b o, X.s₀.heap.get? b = some o → b ≠ X.env.locals := fun b o e => Nat.ne_of_lt (Nat.lt_of_lt_of_le (Heap.lt_size e) I.ok.above)
  have neC : ∀ b o, X.s₀.heap.get? b = some o → b ∉ X.ex → b ∉ ch := fun b o e hx hb => by
    rcases (hch b hb).1 with z | z
    · exact hx z
    · exact absurd (Nat.lt_of_lt_of_le (Heap.lt_size e) z) (Nat.lt_irrefl _)
  have cellK : ∀ x c, X.env.cells.lookup x = some c → ∀ v, s.heap.IsCell c v → h'.IsCell c v := fun x c e v ⟨o, ho, hd⟩ => by
    have nch : c ∉ ch := fun z => (hch c z).2.2.1 x c e rfl
    by_cases hc : c ∈ X.fs
    · obtain ⟨sl, q⟩ := slot c o (I.cne x c e) hc nch ho (I.freeC x c e)
      exact ⟨_, q, hd⟩
    · exact ⟨o, keep c o (I.cne x c e) hc nch ho (I.freeC x c e), hd⟩
  refine ⟨I.ok, I.os, hg, ⟨fun b o e n hb hx => ?_, fun b o e n hb hx => ?_, fun b o e n hx => ?_, fun b o e hx => ?_, fun b xs e => tups b xs (I.base.tups b xs e), fun b o xs e => frzs b o xs (I.base.frzs b o xs e), fun b ps e => ?_⟩, ?_, fun x c e => ?_, ?_, fun x c e => ?_, fun p hp => ?_, hok, I.len⟩
  · exact keep b o (neL b o e) hb (neC b o e hx) (I.base.keep b o e n hb hx) (I.base.free b o e n hx)
  · obtain ⟨sl, e1⟩ := I.base.slot b o e n hb hx
    obtain ⟨sl', e2⟩ := slot b _ (neL b o e) hb (neC b o e hx) e1 (I.base.free b o e n hx)
    exact ⟨sl', e2⟩
  · obtain ⟨o', e1⟩ := I.base.there b o e hx
    exact free b o' (neC b o e hx) e1 (I.base.free b o e n hx)
  · obtain ⟨o', e1⟩ := I.base.there b o e hx
    exact there b o' (neC b o e hx) e1
  · obtain ⟨m1, e1⟩ := I.base.tbls b ps e
    obtain ⟨m2, e2⟩ := tbls b _ e1
    exact ⟨m1 ++ m2, by rw [e2, Array.append_assoc]⟩
  · obtain ⟨m, hn, hl⟩ := I.loc
    refine ⟨m, ns m hn, fun i x v e1 e2 e3 => ?_⟩
    obtain ⟨u, r, l⟩ := hl i x v e1 e2 e3
    refine ⟨u, r, ?_⟩
    rcases l with l | ⟨k, c, e, z⟩
    · exact .inl l
    · exact .inr ⟨k, c, e, cellK x c e _ z⟩
  · obtain ⟨v, z⟩ := I.cell x c e
    exact ⟨v, cellK x c e v z⟩
  · obtain ⟨m, ⟨o, _, _, ho, _⟩, _⟩ := I.loc
    exact free _ o (fun z => (hch _ z).2.1 rfl) ho I.free
  · obtain ⟨v, o, ho, hd⟩ := I.cell x c e
    exact free c o (fun z => (hch c z).2.2.1 x c e rfl) ho (I.freeC x c e)
  · obtain ⟨e, n, ne, nf, d⟩ := I.pin p hp
    have nch : p.1 ∉ ch := fun z => (hch p.1 z).2.2.2 p hp rfl
    exact ⟨keep p.1 p.2 ne nf nch e n, free p.1 p.2 nch e n, ne, nf, d⟩
/-- .. where the frame's own object is kept too -/
theorem Inv.un {t' : Nat} (I : Inv X pins σ H s) (u : Un X.fs [] H H' s.heap h') (hok : HOk X.prog X.w H' h') : Inv X pins σ H' { s with heap := h', toks := t' } := by
  obtain ⟨m, ⟨o, es, ep, ho, r⟩, _⟩ := id I.loc
  obtain ⟨sl, hL⟩ := u.any ho I.free (by simp)
  exact I.step (g' := s.gens) (d' := s.drawn) (ch := []) (fun _ z => nomatch z) (fun b o _ hb _ e n => u.keep b o e n hb (by simp)) (fun b o _ hb _ e n => u.slot b o e n hb (by simp)) (fun b o _ e n => u.free b o e n (by simp)) (fun b o _ e => u.there b o e (by simp)) u.tups u.frzs u.tbls (fun m' hm => by
    obtain ⟨o', es', ep', ho', r'⟩ := hm
    rw [ho] at ho'; cases ho'
    exact ⟨_, es', ep', hL, r'⟩) hok I.bare
/-- behind a call (or a comprehension's block): the slots of this frame may have changed too, the records at ch may have turned -/
theorem Inv.call {g' : Array GenState} {t' : Nat} {d' : Drawn} {ch : List Addr} (I : Inv X pins σ H s) (u : Un (frs X.stack) ch H H' s.heap h') (hok : HOk X.prog X.w H' h') (hg : AllBare g')
    (hch : ∀ b ∈ ch, (b ∈ X.ex ∨ X.s₀.heap.objs.size ≤ b) ∧ b ≠ X.env.locals ∧ (∀ x c, X.env.cells.lookup x = some c → c ≠ b) ∧ ∀ p ∈ X.pn ++ pins, p.1 ≠ b) :
    Inv X pins σ H' { s with heap := h', gens := g', drawn := d', toks := t' } := by
  obtain ⟨m, ⟨o, es, ep, ho, r⟩, _⟩ := id I.loc
  obtain ⟨sl, hL⟩ := u.any ho I.free fun z => (hch _ z).2.1 rfl
  exact I.step (ch := ch) hch (fun b o hL hb hc e n => u.keep b o e n (fun z => (List.mem_cons.mp (I.stkSub b z)).elim hL hb) hc) (fun b o _ _ hc e n => u.any e n hc) (fun b o hc e n => u.free b o e n hc) (fun b o hc e => u.there b o e hc) u.tups u.frzs u.tbls (fun m' hm => by
    obtain ⟨o', es', ep', ho', r'⟩ := hm
    rw [ho] at ho'; cases ho'
    exact ⟨_, es', ep', hL, r'⟩) hok hg
/-- an untracked record of ours (an iterator) has turned -/
theorem Inv.turned {t' : Nat} {it : Addr} (I : Inv X pins σ H s) (k : ∀ b o, b ≠ it → s.heap.get? b = some o → h'.get? b = some o) (hn : H it = none) (hL : it ≠ X.env.locals)
    (h1 : it ∈ X.ex ∨ X.s₀.heap.objs.size ≤ it) (h2 : ∀ x c, X.env.cells.lookup x = some c → c ≠ it) (h3 : ∀ p ∈ X.pn ++ pins, p.1 ≠ it) : Inv X pins σ H { s with heap := h', toks := t' } := by
  have nit : ∀ b u, H b = some u → b ≠ it := fun b u e z => by rw [z, hn] at e; cases e
  refine I.step (g' := s.gens) (d' := s.drawn) (ch := [it]) (fun b hb => ?_) (fun b o _ _ hc e _ => k b o (fun z => hc (by simp [z])) e) (fun b o _ _ hc e _ => ⟨o.slots, k b o (fun z => hc (by simp [z])) e⟩) (fun _ _ _ _ n => n)
    (fun b o hc e => ⟨o, k b o (fun z => hc (by simp [z])) e⟩) (fun _ _ e => e) (fun _ _ _ e => e) (fun b ps e => ⟨#[], by rw [e]; simp⟩) (fun m hm => ?_) (fun b u e => ?_) I.bare
  · have e : b = it := by simpa using hb
    subst e
    exact ⟨h1, hL, h2, h3⟩
  · obtain ⟨o, es, ep, ho, r⟩ := hm
    exact ⟨o, es, ep, k _ o (Ne.symm hL) ho, r⟩
  · refine (I.hok b u e).stay (fun c v hc q => k c v ?_ q) (fun _ q => q) fun _ _ q => q
    rcases hc with z | z
    · rw [z]; exact nit b u e
    · exact nit c _ z
theorem Inv.tok (I : Inv X pins σ H s) (t : Nat) : Inv X pins σ H { s with toks := t } := I.un (h' := s.heap) (t' := t) Un.refl I.hok
/-- all objects kept -/
theorem Inv.kept {t' : Nat} (I : Inv X pins σ H s) (k : ∀ b u, s.heap.get? b = some u → h'.get? b = some u) : Inv X pins σ H { s with heap := h', toks := t' } := I.un (Un.kept k) (I.hok.kept k)
/-- a new object laid and tracked -/
theorem Inv.laid {a : Addr} {o : HO} {t' : Nat} (I : Inv X pins σ H s) (k : ∀ b u, s.heap.get? b = some u → h'.get? b = some u) (hp : s.heap.objs.size ≤ a) (new : ObjOk X.prog X.w (upd H a o) h' a o) :
    Inv X pins σ (upd H a o) { s with heap := h', toks := t' } := I.un (Un.laid k hp (I.hok.fresh hp)) (I.hok.laid k hp new)
/-- an object written -/
theorem Inv.write {x e : Addr} {o : HO} {t' : Nat} (I : Inv X pins σ H s) (mu : Mut (H x)) (he : e = x ∨ H e = some (.own x)) (k : ∀ b u, b ≠ e → s.heap.get? b = some u → h'.get? b = some u) (heo : ∃ u, h'.get? e = some u)
    (new : ObjOk X.prog X.w (upd H x o) h' x o) : Inv X pins σ (upd H x o) { s with heap := h', toks := t' } := I.un (Un.write mu he k heo) (I.hok.write mu he k heo new)
theorem Inv.pins_of {pins' : List (Addr × Obj)} (I : Inv X pins σ H s) (h : ∀ p ∈ pins', s.heap.get? p.1 = some p.2 ∧ H p.1 = none ∧ p.1 ≠ X.env.locals ∧ p.1 ∉ X.fs ∧ ∀ v, p.2.data ≠ .cell v) : Inv X pins' σ H s :=
  ⟨I.ok, I.os, I.bare, I.base, I.loc, I.cell, I.free, I.freeC, fun p hp => (List.mem_append.mp hp).elim (fun z => I.pin p (List.mem_append_left _ z)) (h p), I.hok, I.len⟩

theorem nodup_ix {N : List Str} (hN : N.Nodup) {i j : Nat} {x : Str} (a : N[i]? = some x) (b : N[j]? = some x) : i = j := by
  obtain ⟨h1, e1⟩ := List.getElem?_eq_some_iff.mp a
  obtain ⟨h2, e2⟩ := List.getElem?_eq_some_iff.mp b
  exact (List.getElem_inj hN).mp (e1.trans e2.symm)

/-- a name is stored; what changed -/
theorem store_ok2 {M : Model} {A : Around} {E : Value → Shared → Prop} {i : Nat} {x : Str} {v : V} {u : Value} {Q : Unit → Shared → Prop} (I : Inv X pins σ H s) (hN : X.N.Nodup) (hi : X.N[i]? = some x) (hx : Loc X.env.scope x) (r : RelV v u)
    (h : ∀ s', Inv X pins (σ.set i (some v)) H s' → (∃ a, Heap.SameBut a s.heap s'.heap ∧ (a = X.env.locals ∨ X.env.cells.lookup x = some a)) → Q () s') (hf : X.fn x = true ∨ X.env.scope.names.lookup x = some .local := by first | exact .inl rfl | exact .inr rfl | assumption) : wpAny M A (storeName X.env x u) Q E s := by
  obtain ⟨m, hn, hl⟩ := id I.loc
  have hcls : (X.env.scope.kind == .class || (X.env.scope.kind == .module && X.env.locals != X.env.globals)) = false := by rw [I.ok.kind]; rfl
  have hiσ : i < σ.length := by rw [I.len]; exact (List.getElem?_eq_some_iff.mp hi).1
  have cne := I.cne
  have tracked : ∀ {a : Addr} {h' : Heap}, (∃ o, s.heap.get? a = some o ∧ H a = none) → Heap.SameBut a s.heap h' → HOk X.prog X.w H h' := fun {a h'} ha hs b ob e => by
    obtain ⟨_, _, hfree⟩ := ha
    refine (I.hok b ob e).stay (fun c w' hc q => (hs.2 c ?_).trans q) (fun _ q => q) fun _ _ q => q
    rintro rfl
    rcases hc with rfl | hc
    · rw [hfree] at e; cases e
    · rw [hfree] at hc; cases hc
  rcases hx with hk | hk
  · refine wpAny_storeName_local hk hn (fun h' hn' hs => ?_) hcls
    obtain ⟨oL, _, _, hoL, _⟩ := id hn
    refine h _ ⟨I.ok, I.os, I.bare, ⟨fun b o e n hb hx => ?_, fun b o e n hb hx => ?_, I.base.free, fun b o e hx => ?_, I.base.tups, I.base.frzs, I.base.tbls⟩, ⟨_, hn', fun j y v' e1 e2 e3 => ?_⟩, fun y c e => ?_, I.free, I.freeC, fun p hp => ?_, tracked ⟨oL, hoL, I.free⟩ hs, by simpa using I.len⟩ ⟨_, hs, .inl rfl⟩
    · exact (hs.2 b (Nat.ne_of_lt (Nat.lt_of_lt_of_le (Heap.lt_size e) I.ok.above))).trans (I.base.keep b o e n hb hx)
    · obtain ⟨sl, e1⟩ := I.base.slot b o e n hb hx
      exact ⟨sl, (hs.2 b (Nat.ne_of_lt (Nat.lt_of_lt_of_le (Heap.lt_size e) I.ok.above))).trans e1⟩
    · obtain ⟨o', e1⟩ := I.base.there b o e hx
      exact ⟨o', (hs.2 b (Nat.ne_of_lt (Nat.lt_of_lt_of_le (Heap.lt_size e) I.ok.above))).trans e1⟩
    · by_cases hj : j = i
      · subst hj
        rw [hi] at e1; cases e1
        rw [List.getElem?_set_self hiσ] at e2
        cases e2
        exact ⟨u, r, .inl ⟨hk, by simp⟩⟩
      · rw [List.getElem?_set_ne (Ne.symm hj)] at e2
        obtain ⟨u', r', q⟩ := hl j y v' e1 e2 e3
        refine ⟨u', r', ?_⟩
        rcases q with ⟨k, e⟩ | ⟨k, c, e, z⟩
        · refine .inl ⟨k, ?_⟩
          have : y ≠ x := fun e => hj (nodup_ix hN e1 (e ▸ hi))
          simp [this, e]
        · exact .inr ⟨k, c, e, z.sameBut hs (cne y c e)⟩
    · obtain ⟨w', z⟩ := I.cell y c e
      exact ⟨w', z.sameBut hs (cne y c e)⟩
    · obtain ⟨e, n, ne, nf, d⟩ := I.pin p hp
      exact ⟨(hs.2 p.1 ne).trans e, n, ne, nf, d⟩
  · have hfn : X.fn x = true := by
      rcases hf with z | z
      · exact z
      · rw [z] at hk; cases hk
    obtain ⟨c, hc⟩ := I.ok.has x (.inl hk)
    obtain ⟨w', z⟩ := I.cell x c hc
    refine wpAny_storeName_cell I.ok.kind hk hc z (fun h' hc' hs => ?_)
    obtain ⟨oc, hoc, hocd⟩ := id z
    refine h { s with heap := h' } ⟨I.ok, I.os, I.bare, ⟨fun b o e n hb hx => ?_, fun b o e n hb hx => ?_, I.base.free, fun b o e hx => ?_, I.base.tups, I.base.frzs, I.base.tbls⟩, ⟨m, hn.sameBut hs (Ne.symm (cne x c hc)), fun j y v' e1 e2 e3 => ?_⟩, fun y c' e => ?_, I.free, I.freeC, fun p hp => ?_, tracked ⟨oc, hoc, I.freeC x c hc⟩ hs, by simpa using I.len⟩ ⟨c, hs, .inr hc⟩
    · exact (hs.2 b (Nat.ne_of_lt (Nat.lt_of_lt_of_le (Heap.lt_size e) (I.ok.cab x c hfn hc)))).trans (I.base.keep b o e n hb hx)
    · obtain ⟨sl, e1⟩ := I.base.slot b o e n hb hx
      exact ⟨sl, (hs.2 b (Nat.ne_of_lt (Nat.lt_of_lt_of_le (Heap.lt_size e) (I.ok.cab x c hfn hc)))).trans e1⟩
    · obtain ⟨o', e1⟩ := I.base.there b o e hx
      exact ⟨o', (hs.2 b (Nat.ne_of_lt (Nat.lt_of_lt_of_le (Heap.lt_size e) (I.ok.cab x c hfn hc)))).trans e1⟩
    · by_cases hj : j = i
      · subst hj
        rw [hi] at e1; cases e1
        rw [List.getElem?_set_self hiσ] at e2
        cases e2
        exact ⟨u, r, .inr ⟨.inl hk, c, hc, hc'⟩⟩
      · rw [List.getElem?_set_ne (Ne.symm hj)] at e2
        obtain ⟨u', r', q⟩ := hl j y v' e1 e2 e3
        refine ⟨u', r', ?_⟩
        rcases q with q | ⟨k, c', e, z'⟩
        · exact .inl q
        · refine .inr ⟨k, c', e, z'.sameBut hs ?_⟩
          rintro rfl
          exact hj (nodup_ix hN e1 (I.ok.inj _ _ _ e hc ▸ hi))
    · by_cases hcc : c' = c
      · subst hcc; exact ⟨_, hc'⟩
      · obtain ⟨w2, z2⟩ := I.cell y c' e
        exact ⟨w2, z2.sameBut hs hcc⟩
    · obtain ⟨e, n, ne, nf, d⟩ := I.pin p hp
      refine ⟨(hs.2 p.1 ?_).trans e, n, ne, nf, d⟩
      intro q
      rw [q, hoc] at e
      have q' : oc = p.2 := Option.some.inj e
      exact d w' (by rw [← q']; exact hocd)
theorem store_ok {M : Model} {A : Around} {E : Value → Shared → Prop} {i : Nat} {x : Str} {v : V} {u : Value} {Q : Unit → Shared → Prop} (I : Inv X pins σ H s) (hN : X.N.Nodup) (hi : X.N[i]? = some x) (hx : Loc X.env.scope x) (r : RelV v u)
    (h : ∀ s', Inv X pins (σ.set i (some v)) H s' → Q () s') (hf : X.fn x = true ∨ X.env.scope.names.lookup x = some .local := by first | exact .inl rfl | exact .inr rfl | assumption) : wpAny M A (storeName X.env x u) Q E s :=
  store_ok2 I hN hi hx r (fun s' I' _ => h s' I') hf
/-- behind a call or a block, the state as it is -/
theorem Inv.call' {s' : Shared} {ch : List Addr} (I : Inv X pins σ H s) (ho : s'.os = s.os) (u : Un (frs X.stack) ch H H' s.heap s'.heap) (hok : HOk X.prog X.w H' s'.heap) (hg : AllBare s'.gens)
    (hch : ∀ b ∈ ch, (b ∈ X.ex ∨ X.s₀.heap.objs.size ≤ b) ∧ b ≠ X.env.locals ∧ (∀ x c, X.env.cells.lookup x = some c → c ≠ b) ∧ ∀ p ∈ X.pn ++ pins, p.1 ≠ b) : Inv X pins σ H' s' := by
  obtain ⟨h', g', d', t', o'⟩ := s'
  have e : o' = s.os := ho
  subst e
  exact I.call (g' := g') (t' := t') (d' := d') u hok hg hch
end

/-! ### the judgements -/
/-- an exception: its class, its own dict's address (where it has one), the abstract heap behind it -/
abbrev XK := Value → Option Addr → Hp → Prop
abbrev St := List (Option V)
abbrev VK := V → Hp → Prop
/-- an expression's reading; a test's; an argument list's -/
abbrev TE := St → Hp → VK → Prop
abbrev TT := St → Hp → (Bool → Hp → Prop) → Prop
abbrev TA := St → Hp → (List V → Hp → Prop) → Prop
/-- what is wanted behind a statement -/
structure Ends where
  nx : St → Hp → Prop
  rt : VK
  bk : St → Hp → Prop := fun _ _ => False
  ct : St → Hp → Prop := fun _ _ => False
abbrev TS := Ends → St → Hp → Prop

def EP (X : Cx) (pins : List (Addr × Obj)) (σ : St) (Q : VK) (u : Value) (s' : Shared) : Prop := ∃ v H', Inv X pins σ H' s' ∧ RelV v u ∧ Q v H'
def TP (X : Cx) (pins : List (Addr × Obj)) (σ : St) (Q : Bool → Hp → Prop) (b : Bool) (s' : Shared) : Prop := ∃ H', Inv X pins σ H' s' ∧ Q b H'
def AP (X : Cx) (pins : List (Addr × Obj)) (σ : St) (Q : List V → Hp → Prop) (us : List Value) (s' : Shared) : Prop := ∃ vs H', Inv X pins σ H' s' ∧ Vals vs us ∧ Q vs H'
def SP (X : Cx) (pins : List (Addr × Obj)) (D : Ends) (f : Flow) (s' : Shared) : Prop :=
  match f with
  | .next => ∃ σ' H', Inv X pins σ' H' s' ∧ D.nx σ' H'
  | .brk => ∃ σ' H', Inv X pins σ' H' s' ∧ D.bk σ' H'
  | .cont => ∃ σ' H', Inv X pins σ' H' s' ∧ D.ct σ' H'
  | .ret u => ∃ v σ' H', Inv X pins σ' H' s' ∧ RelV v u ∧ D.rt v H'

def PE (X : Cx) (e : Expr) (t : TE) : Prop :=
  ∀ (pins : List (Addr × Obj)) (s : Shared) (σ : St) (H : Hp) (Q : VK), Inv X pins σ H s → t σ H Q → wpAny (model X.prog X.w) X.A (eval e X.env) (EP X pins σ Q) X.xe s
def PT (X : Cx) (e : Expr) (t : TT) : Prop :=
  ∀ (pins : List (Addr × Obj)) (s : Shared) (σ : St) (H : Hp) (Q : Bool → Hp → Prop), Inv X pins σ H s → t σ H Q → wpAny (model X.prog X.w) X.A (isTrue e X.env (eval e X.env)) (TP X pins σ Q) X.xe s
/-- a test whatever its 'whole' is (and, or) -/
def PW (X : Cx) (e : Expr) (t : TT) : Prop :=
  ∀ (whole : Sem Value) (pins : List (Addr × Obj)) (s : Shared) (σ : St) (H : Hp) (Q : Bool → Hp → Prop), Inv X pins σ H s → t σ H Q → wpAny (model X.prog X.w) X.A (isTrue e X.env whole) (TP X pins σ Q) X.xe s
theorem PW.pt {X : Cx} {e : Expr} {t : TT} (h : PW X e t) : PT X e t := h _
/-- an argument list (no star), from the left -/
def PA (X : Cx) (es : List Expr) (t : TA) : Prop :=
  ∀ (pos : Pos) (pins : List (Addr × Obj)) (s : Shared) (σ : St) (H : Hp) (Q : List V → Hp → Prop), Inv X pins σ H s → t σ H Q → wpAny (model X.prog X.w) X.A (spliced (backTo pos (starEach es X.env))) (AP X pins σ Q) X.xe s
def PS (X : Cx) (st : Stmt) (t : TS) : Prop :=
  ∀ (pins : List (Addr × Obj)) (s : Shared) (σ : St) (H : Hp) (D : Ends), Inv X pins σ H s → t D σ H → wpAny (model X.prog X.w) X.A (exec st X.env) (SP X pins D) X.xe s
def PSs (X : Cx) (st : List Stmt) (t : TS) : Prop :=
  ∀ (pins : List (Addr × Obj)) (s : Shared) (σ : St) (H : Hp) (D : Ends), Inv X pins σ H s → t D σ H → wpAny (model X.prog X.w) X.A (execs st X.env) (SP X pins D) X.xe s
/-- weaken the end -/
theorem thn {α : Type} {t : Sem α} {Q Q' : α → Shared → Prop} {M : Model} {A : Around} {E : Value → Shared → Prop} {s : Shared} (h : wpAny M A t Q E s) (hQ : ∀ a s, Q a s → Q' a s) : wpAny M A t Q' E s := wpAny_mono h hQ fun _ _ x => x
end L2

namespace L2
open PySem PySem.Spec PyProof.Rows
section
variable {X : Cx}

/-! ### names and constants -/
def tVar (i : Nat) : TE := fun σ H Q => ∃ v, σ[i]? = some (some v) ∧ Q v H
def tC (v : V) : TE := fun _ H Q => Q v H
theorem pe_var {i : Nat} {x : Str} {pos : Pos} (hN : X.N[i]? = some x) (hv : Vis X.env.scope x) (hd : (x == ("__debug__" : Str)) = false := by decide) (hcd : (x == ("__classdict__" : Str)) = false := by decide) : PE X (.Name x pos) (tVar i) := by
  intro pins s σ H Q I h
  obtain ⟨v, e, h⟩ := h
  obtain ⟨m, hn, hl⟩ := I.loc
  obtain ⟨u, r, l⟩ := hl i x v hN e hv
  have fin : EP X pins σ Q u s := ⟨v, H, I, r, h⟩
  rcases l with ⟨hk, hm⟩ | ⟨hk, c, hc, hcell⟩
  · exact wpAny_Name (wpAny_loadName_local I.ok.kind hk hn hm fin) hd
  · rcases hk with hk | hk
    · exact wpAny_Name (wpAny_loadName_cell I.ok.kind hk hc hcell fin) hd
    · exact wpAny_Name (wpAny_loadName_free I.ok.kind hk hc hcell fin hcd) hd
theorem pe_int {i j pos} : PE X (.Constant (.int i) j pos) (tC (.int i)) := fun _ _ _ H _ I h => wpAny_Constant_int ⟨.int i, H, I.tok _, ⟨_, rfl⟩, h⟩
theorem pe_bl {b j pos} : PE X (.Constant (.bool b) j pos) (tC (.bl b)) := fun _ _ _ H _ I h => Constant_bool ⟨.bl b, H, I, rfl, h⟩
theorem pe_non {j pos} : PE X (.Constant .none j pos) (tC .non) := fun _ _ _ H _ I h => Constant_none ⟨.non, H, I, rfl, h⟩
theorem pe_str {x j pos} : PE X (.Constant (.str x) j pos) (tC (.str x)) := fun _ _ _ H _ I h => Calls.Constant_str ⟨.str x, H, I.tok _, ⟨_, rfl⟩, h⟩

/-- a global name of the def -/
def Gl (X : Cx) (x : Str) : Prop := X.env.kindOf x = some .globalImplicit
theorem ld_glob {E : Value → Shared → Prop} {pins : List (Addr × Obj)} {s : Shared} {σ : St} {H : Hp} {x : Str} {u : Value} {pos : Pos} {Q : Value → Shared → Prop} (I : Inv X pins σ H s) (hg : Gl X x) (hm : X.mg x = some u) (h : Q u s)
    (hd : (x == ("__debug__" : Str)) = false := by decide) : wpAny (model X.prog X.w) X.A (eval (.Name x pos) X.env) Q E s :=
  Calls.Name_function_global I.ok.kind hg (Calls.loadGlobal_global (by rw [I.ok.glob]; exact I.mod.glob.keeps I.bk) hm h) hd
theorem ld_blt {E : Value → Shared → Prop} {pins : List (Addr × Obj)} {s : Shared} {σ : St} {H : Hp} {x : Str} {u : Value} {pos : Pos} {Q : Value → Shared → Prop} (I : Inv X pins σ H s) (hg : Gl X x) (hm : X.mg x = none) (hv : bootBuiltins x = some u) (h : Q u s)
    (hn : x ≠ "__name__" := by decide) (hd : (x == ("__debug__" : Str)) = false := by decide) : wpAny (model X.prog X.w) X.A (eval (.Name x pos) X.env) Q E s := by
  obtain ⟨mb, h1, h2⟩ := I.mod.blt
  exact Calls.Name_function_global I.ok.kind hg (Calls.loadGlobal_builtin (by rw [I.ok.glob]; exact I.mod.glob.keeps I.bk) hm (by rw [I.ok.blt]; exact h1.keeps I.bk) ((h2 x hn).trans hv) h) hd
/-- a module's constant, a class, a function, as a value -/
theorem pe_glob {x : Str} {v : V} {u : Value} {pos : Pos} (hg : Gl X x) (hm : X.mg x = some u) (r : RelV v u) (hd : (x == ("__debug__" : Str)) = false := by decide) : PE X (.Name x pos) (tC v) :=
  fun _ _ _ H _ I h => ld_glob I hg hm ⟨v, H, I, r, h⟩ hd
theorem pe_bltn {x : Str} {v : V} {u : Value} {pos : Pos} (hg : Gl X x) (hm : X.mg x = none) (hv : bootBuiltins x = some u) (r : RelV v u) (hn : x ≠ "__name__" := by decide) (hd : (x == ("__debug__" : Str)) = false := by decide) : PE X (.Name x pos) (tC v) :=
  fun _ _ _ H _ I h => ld_blt I hg hm hv ⟨v, H, I, r, h⟩ hn hd

/-! ### arithmetic -/
/-- two ints -/
def t2I (ta tb : TE) (k : Int → Int → Hp → Prop) : St → Hp → Prop := fun σ H => ta σ H fun x H1 => tb σ H1 fun y H2 => ∃ i j, x = .int i ∧ y = .int j ∧ k i j H2
def tAdd (ta tb : TE) : TE := fun σ H Q => t2I ta tb (fun i j H2 => Q (.int (i + j)) H2) σ H
def tSub (ta tb : TE) : TE := fun σ H Q => t2I ta tb (fun i j H2 => Q (.int (i - j)) H2) σ H
/-- the left factor below 2^64 -/
def tMul (ta tb : TE) : TE := fun σ H Q => t2I ta tb (fun i j H2 => (-(2 ^ 64) < i ∧ i < 2 ^ 64) ∧ Q (.int (i * j)) H2) σ H
variable {a b : Expr} {ta tb : TE} {pos : Pos}
/-! ### comparisons -/
def PC (X : Cx) (op : CmpOp) (a b : Expr) (t : TE) : Prop :=
  ∀ (pins : List (Addr × Obj)) (s : Shared) (σ : St) (H : Hp) (Q : VK), Inv X pins σ H s → t σ H Q →
    wpAny (model X.prog X.w) X.A (eval a X.env) (fun v s₁ => wpAny (model X.prog X.w) X.A (eval b X.env) (fun u s₂ => wpAny (model X.prog X.w) X.A (compareOp op v u) (EP X pins σ Q) X.xe s₂) X.xe s₁) X.xe s
theorem nobehind (b : Expr) {op : CmpOp} (h : op ≠ .In) (h2 : op ≠ .NotIn) : behindInMarks op b = false := by
  have e1 : (op == CmpOp.In) = false := by cases op <;> first | rfl | exact absurd rfl h
  have e2 : (op == CmpOp.NotIn) = false := by cases op <;> first | rfl | exact absurd rfl h2
  cases b <;> simp [behindInMarks, e1, e2]
def tCmp (p : Int → Int → Bool) (ta tb : TE) : TE := fun σ H Q => t2I ta tb (fun i j H2 => Q (.bl (p i j)) H2) σ H
abbrev tLt : TE → TE → TE := tCmp fun i j => decide (i < j)
abbrev tLe : TE → TE → TE := tCmp fun i j => decide (i ≤ j)
abbrev tGt : TE → TE → TE := tCmp fun i j => decide (j < i)
abbrev tGe : TE → TE → TE := tCmp fun i j => decide (j ≤ i)
abbrev tEqI : TE → TE → TE := tCmp fun i j => decide (i = j)
abbrev tNeI : TE → TE → TE := tCmp fun i j => !decide (i = j)
/-- is None -/
def tIsN (ta : TE) : TE := fun σ H Q => ta σ H fun x H1 => Q (.bl (decide (x = .non))) H1
def tNotN (ta : TE) : TE := fun σ H Q => ta σ H fun x H1 => Q (.bl (!decide (x = .non))) H1
theorem RelV.none_iff {x : V} {v : Value} (r : RelV x v) : (v == Value.none) = decide (x = .non) := by
  cases x with
  | non => cases r; rfl
  | bl _ => cases r; rfl
  | int _ => obtain ⟨t, rfl⟩ := r; rfl
  | str _ => obtain ⟨t, rfl⟩ := r; rfl
  | byt _ => obtain ⟨t, rfl⟩ := r; rfl
  | flt _ => obtain ⟨t, rfl⟩ := r; rfl
  | ref _ => cases r; rfl
  | ty _ => cases r; rfl
theorem pc_isN {j pos'} (ha : PE X a ta) : PC X .Is a (.Constant .none j pos') (tIsN ta) := by
  intro pins s σ H Q I h
  refine thn (ha pins s σ H _ I h) fun v s1 ⟨x, H1, I1, r1, q1⟩ => ?_
  exact Constant_none (is_none_gen ⟨.bl _, H1, I1, by rw [r1.none_iff]; rfl, q1⟩)
/-- a comparison as a value, as a test -/
def tB (t : TE) : TT := fun σ H Q => t σ H fun x H1 => ∃ c, x = .bl c ∧ Q c H1
theorem pe_cmp {op : CmpOp} {t : TE} (h : PC X op a b t) (h1 : behindInMarks op b = false := by first | exact nobehind _ (by decide) (by decide) | rfl) : PE X (.Compare a [op] [b] pos) t := fun pins s σ H Q I hw => wpAny_Compare1 (h pins s σ H Q I hw) h1
theorem pt_cmp {op : CmpOp} {t : TE} (h : PC X op a b t) (h1 : behindInMarks op b = false := by first | exact nobehind _ (by decide) (by decide) | rfl) : PT X (.Compare a [op] [b] pos) (tB t) := by
  intro pins s σ H Q I hw
  refine wpAny_isTrue_Compare1 (thn (h pins s σ H _ I hw) fun v s1 h1 => thn h1 fun u s2 h2 => thn h2 fun c s3 ⟨x, H1, I1, r1, q1⟩ => ?_) h1
  obtain ⟨d, rfl, q⟩ := q1
  cases r1
  exact wpAny_truthy_bool ⟨H1, I1, q⟩
/-- an expression whose value is a bool, as a test -/
theorem pt_val {e : Expr} {t : TE} (h : PE X e t) (he : ∀ whole, isTrue e X.env whole = (do let v ← whole; standAt e.pos; holding [v] (truthy v)) := by intro _; rfl) : PT X e (tB t) := by
  intro pins s σ H Q I hw
  refine isTrue_plain (thn (h pins s σ H _ I hw) fun v s1 ⟨x, H1, I1, r1, q1⟩ => ?_) (he _)
  obtain ⟨d, rfl, q⟩ := q1
  cases r1
  exact wpAny_truthy_bool ⟨H1, I1, q⟩

/-! ### and, or, not -/
variable {tA tB' : TT} {rest : List Expr}
def tAnd (t u : TT) : TT := fun σ H Q => t σ H fun c H1 => if c = true then u σ H1 Q else Q false H1
def tOr (t u : TT) : TT := fun σ H Q => t σ H fun c H1 => if c = true then Q true H1 else u σ H1 Q
def tNot (t : TT) : TT := fun σ H Q => t σ H fun c H1 => Q (!c) H1
theorem pw_or1 (ha : PT X a tA) : PW X (.BoolOp .Or [a] pos) tA := by
  intro wh pins s σ H Q I h
  refine isTrue_or (thn (ha pins s σ H Q I h) fun c s1 e => ?_)
  cases c with
  | false => exact isTrue_or_nil e
  | true => exact e
theorem pw_or (ha : PT X a tA) (hb : PW X (.BoolOp .Or (b :: rest) pos) tB') : PW X (.BoolOp .Or (a :: b :: rest) pos) (tOr tA tB') := by
  intro wh pins s σ H Q I h
  refine isTrue_or (thn (ha pins s σ H _ I h) fun c s1 ⟨H1, I1, q1⟩ => ?_)
  cases c with
  | true => exact ⟨H1, I1, q1⟩
  | false => exact hb wh pins s1 σ H1 Q I1 q1
theorem pt_not (ha : PT X a tA) : PT X (.UnaryOp .Not a pos) (tNot tA) := by
  intro pins s σ H Q I h
  exact isTrue_not (ha pins s σ H (fun c H1 => Q (!c) H1) I h)
/-- .. as values (bools) -/
def tAndV (ta tb : TE) : TE := fun σ H Q => ta σ H fun x H1 => ∃ c, x = .bl c ∧ if c = true then tb σ H1 Q else Q (.bl false) H1
def tOrV (ta tb : TE) : TE := fun σ H Q => ta σ H fun x H1 => ∃ c, x = .bl c ∧ if c = true then Q (.bl true) H1 else tb σ H1 Q
def tNotV (ta : TE) : TE := fun σ H Q => ta σ H fun x H1 => ∃ c, x = .bl c ∧ Q (.bl (!c)) H1
theorem pe_one {op} {t : TE} (h : PE X a t) : PE X (.BoolOp op [a] pos) t := fun pins s σ H Q I hw => BoolOp_one (h pins s σ H Q I hw)
theorem pe_and (ha : PE X a ta) (hb : PE X (.BoolOp .And (b :: rest) pos) tb) : PE X (.BoolOp .And (a :: b :: rest) pos) (tAndV ta tb) := by
  intro pins s σ H Q I h
  refine BoolOp_and (thn (ha pins s σ H _ I h) fun v s1 ⟨x, H1, I1, r1, q1⟩ => ?_)
  obtain ⟨c, rfl, q1⟩ := q1
  cases r1
  refine wpAny_truthy_bool ?_
  cases c with
  | true => exact hb pins s1 σ H1 Q I1 q1
  | false => exact ⟨.bl false, H1, I1, rfl, q1⟩
theorem pe_not (ha : PE X a ta) : PE X (.UnaryOp .Not a pos) (tNotV ta) := by
  intro pins s σ H Q I h
  refine UnaryOp_ (thn (ha pins s σ H _ I h) fun v s1 ⟨x, H1, I1, r1, q1⟩ => ?_)
  obtain ⟨c, rfl, q1⟩ := q1
  cases r1
  exact not_of (wpAny_truthy_bool ⟨.bl (!c), H1, I1, rfl, q1⟩)
/-- a if t else b -/
def tIf (t : TT) (ta tb : TE) : TE := fun σ H Q => t σ H fun c H1 => if c = true then ta σ H1 Q else tb σ H1 Q
theorem pe_ifExp {c : Expr} (hc : PT X c tA) (ha : PE X a ta) (hb : PE X b tb) : PE X (.IfExp c a b pos) (tIf tA ta tb) := by
  intro pins s σ H Q I h
  refine wpAny_IfExp (thn (hc pins s σ H _ I h) fun d s1 ⟨H1, I1, q1⟩ => ?_)
  cases d with
  | true => exact ha pins s1 σ H1 Q I1 q1
  | false => exact hb pins s1 σ H1 Q I1 q1
end
end L2

namespace L2
open PySem PySem.Spec PyProof.Rows

/-! ### a list, a tuple that is read: tracked, frozen, or an object of the module -/
def SqL (K : PySem.W.Frag) (H : Hp) (a : Addr) (xs : List V) : Prop :=
  Rd H a (.lst xs) ∨
    ∃ (o : Obj) (its : Array Value) (n : Nat), K.lookup a = some o ∧ o.cls = .type "list" ∧ o.dict = none ∧ o.data = .seq its n ∧ its.size ≤ sizeLine ∧ Vals xs its.toList
def SqT (K : PySem.W.Frag) (H : Hp) (a : Addr) (xs : List V) : Prop :=
  Rd H a (.tup xs) ∨
    ∃ (o : Obj) (its : Array Value) (n : Nat), K.lookup a = some o ∧ o.cls = .type "tuple" ∧ o.data = .seq its n ∧ its.size ≤ sizeLine ∧ Vals xs its.toList
def absV : Value → Option V
  | .none => some .non
  | .bool b => some (.bl b)
  | .int i _ => some (.int i)
  | .str x _ => some (.str x)
  | .bytes b _ => some (.byt b)
  | .float b _ => some (.flt b)
  | .ref a => some (.ref a)
  | .type n => some (.ty n)
  | _ => none
theorem RelV.abs {x : V} {u : Value} (r : RelV x u) : absV u = some x := by
  cases x with
  | non => cases r; rfl
  | bl _ => cases r; rfl
  | int _ => obtain ⟨t, rfl⟩ := r; rfl
  | str _ => obtain ⟨t, rfl⟩ := r; rfl
  | byt _ => obtain ⟨t, rfl⟩ := r; rfl
  | flt _ => obtain ⟨t, rfl⟩ := r; rfl
  | ref _ => cases r; rfl
  | ty _ => cases r; rfl
theorem RelV.inj {x y : V} {u : Value} (r : RelV x u) (q : RelV y u) : x = y := Option.some.inj (r.abs.symm.trans q.abs)
theorem Vals.inj : ∀ {xs ys : List V} {us : List Value}, Vals xs us → Vals ys us → xs = ys
  | _, _, _, .nil, .nil => rfl
  | _, _, _, .cons r t, .cons r' t' => by rw [r.inj r', Vals.inj t t']
section
variable {X : Cx} {pins : List (Addr × Obj)} {σ : St} {H : Hp} {s : Shared} {a : Addr} {xs ys : List V}
theorem SqL.of {K : PySem.W.Frag} (h : H a = some (.lst xs)) : SqL K H a xs := .inl (.inl h)
theorem SqT.of {K : PySem.W.Frag} (h : H a = some (.tup xs)) : SqT K H a xs := .inl (.inl h)
theorem Inv.list (I : Inv X pins σ H s) (h : SqL X.K H a xs) : ∃ its : List Value, Vals xs its ∧ PlainL s.heap a its.toArray ∧ xs.length ≤ sizeLine := by
  rcases h with h | ⟨o, its, n, hk, hc, hd, hs, hz, r⟩
  · obtain ⟨z, its, n, r, e⟩ := h.ok I.hok
    exact ⟨its, r, ⟨_, n, e, rfl, rfl, rfl⟩, z⟩
  · refine ⟨its.toList, r, ⟨o, n, I.kIn a o hk, hc, hd, by simpa using hs⟩, ?_⟩
    have e := r.length
    simp only [Array.length_toList] at e
    omega
theorem Inv.tuple (I : Inv X pins σ H s) (h : SqT X.K H a xs) : ∃ its : List Value, Vals xs its ∧ IsTup s.heap a its.toArray ∧ xs.length ≤ sizeLine := by
  rcases h with h | ⟨o, its, n, hk, hc, hs, hz, r⟩
  · obtain ⟨z, its, r, p⟩ := h.ok I.hok
    exact ⟨its, r, p, z⟩
  · refine ⟨its.toList, r, ⟨o, I.kIn a o hk, hc, n, by simpa using hs⟩, ?_⟩
    have e := r.length
    simp only [Array.length_toList] at e
    omega
theorem Inv.list_inj (I : Inv X pins σ H s) (h : SqL X.K H a xs) (h' : SqL X.K H a ys) : xs = ys := by
  obtain ⟨its, r, ⟨o, n, e, _, _, d⟩, _⟩ := I.list h
  obtain ⟨its', r', ⟨o', n', e', _, _, d'⟩, _⟩ := I.list h'
  rw [e] at e'; cases e'
  rw [d] at d'
  injection d' with d1 _
  have : its = its' := by simpa using congrArg Array.toList d1
  subst this
  exact r.inj r'
end

/-! ### another wish about exceptions -/
abbrev Cx.wish (X : Cx) (E : Value → Shared → Prop) : Cx := { X with xe := E }
/-- no exception leaves -/
abbrev Cx.nox (X : Cx) : Cx := X.wish fun _ _ => False
theorem Cx.Ok.wish {X : Cx} (ok : X.Ok) (E : Value → Shared → Prop) : (X.wish E).Ok :=
  ⟨ok.mod, ok.kind, ok.glob, ok.blt, ok.above, ok.inj, ok.has, ok.cab, ok.hd, ok.frames, ok.stk, ok.exf, ok.bs, ok.bsz, ok.noex, ok.exfs, ok.funs, ok.frf⟩
theorem Cx.Ok.unwish {X : Cx} {E : Value → Shared → Prop} (ok : (X.wish E).Ok) : X.Ok :=
  ⟨ok.mod, ok.kind, ok.glob, ok.blt, ok.above, ok.inj, ok.has, ok.cab, ok.hd, ok.frames, ok.stk, ok.exf, ok.bs, ok.bsz, ok.noex, ok.exfs, ok.funs, ok.frf⟩
section
variable {X : Cx} {pins : List (Addr × Obj)} {σ : St} {H : Hp} {s : Shared} {E : Value → Shared → Prop}
theorem Inv.wish (I : Inv X pins σ H s) (E : Value → Shared → Prop) : Inv (X.wish E) pins σ H s := ⟨I.ok.wish E, I.os, I.bare, I.base, I.loc, I.cell, I.free, I.freeC, I.pin, I.hok, I.len⟩
theorem Inv.unwish (I : Inv (X.wish E) pins σ H s) : Inv X pins σ H s := ⟨I.ok.unwish, I.os, I.bare, I.base, I.loc, I.cell, I.free, I.freeC, I.pin, I.hok, I.len⟩
theorem SP.unwish {D : Ends} {f : Flow} {s' : Shared} (h : SP (X.wish E) pins D f s') : SP X pins D f s' := by
  cases f with
  | next => obtain ⟨σ', H', I, q⟩ := h; exact ⟨σ', H', I.unwish, q⟩
  | brk => obtain ⟨σ', H', I, q⟩ := h; exact ⟨σ', H', I.unwish, q⟩
  | cont => obtain ⟨σ', H', I, q⟩ := h; exact ⟨σ', H', I.unwish, q⟩
  | ret u => obtain ⟨v, σ', H', I, r, q⟩ := h; exact ⟨v, σ', H', I.unwish, r, q⟩
theorem PSs.nox {st : List Stmt} {t : TS} (h : PSs X.nox st t) : PSs X st t := fun pins s σ H D I hw =>
  wpAny_mono (h pins s σ H D (I.wish _) hw) (fun _ _ q => q.unwish) fun _ _ z => False.elim z
end

/-! ### blocks and small statements -/
section
variable {X : Cx} {st : Stmt} {rest : List Stmt} {t u : TS} {e : Expr} {te : TE} {pos : Pos}
def tNext : TS := fun D σ H => D.nx σ H
def tSeq (t u : TS) : TS := fun D σ H => t { D with nx := u D } σ H
theorem pss_nil : PSs X [] tNext := fun _ _ σ H _ I h => wpAny_execs_nil ⟨σ, H, I, h⟩
theorem pss_cons (h1 : PS X st t) (h2 : PSs X rest u) : PSs X (st :: rest) (tSeq t u) := by
  intro pins s σ H D I h
  refine wpAny_execs_cons (thn (h1 pins s σ H { D with nx := u D } I h) fun f s1 q => ?_)
  cases f with
  | next =>
    obtain ⟨σ', H', I', q⟩ := q
    exact h2 pins s1 σ' H' D I' q
  | ret v => exact q
  | brk => exact q
  | cont => exact q
theorem pss_one (h1 : PS X st t) : PSs X [st] t := by
  intro pins s σ H D I h
  refine wpAny_execs_cons (thn (h1 pins s σ H D I h) fun f s1 q => ?_)
  cases f with
  | next => exact wpAny_execs_nil q
  | ret v => exact q
  | brk => exact q
  | cont => exact q
def tBreak : TS := fun D σ H => D.bk σ H
def tCont : TS := fun D σ H => D.ct σ H
/-- in a def's body nothing is shown -/
theorem Inv.quiet {pins : List (Addr × Obj)} {σ : St} {H : Hp} {s : Shared} (I : Inv X pins σ H s) : interactive X.env = false := by simp [interactive, I.ok.kind]
/-- an expression whose value is dropped -/
def tDrop (te : TE) : TS := fun D σ H => te σ H fun _ H1 => D.nx σ H1
theorem ps_expr (he : PE X e te) (hs : swapsWith e none pos.line X.env = pure false := by rfl) : PS X (.Expr e pos) (tDrop te) := by
  intro pins s σ H D I h
  exact wpAny_Expr_any (thn (he pins s σ H _ I h) fun v s1 ⟨x, H1, I1, r1, q1⟩ => ⟨σ, H1, I1, q1⟩) I.quiet hs
def tRet (te : TE) : TS := fun D σ H => te σ H D.rt
theorem ps_ret (he : PE X e te) : PS X (.Return (some e) pos) (tRet te) := by
  intro pins s σ H D I h
  exact wpAny_Return_some (thn (he pins s σ H _ I h) fun v s1 ⟨x, H1, I1, r1, q1⟩ => ⟨x, σ, H1, I1, r1, q1⟩)
def tRetN : TS := fun D _ H => D.rt .non H
def tIfS (c : TT) (t u : TS) : TS := fun D σ H => c σ H fun b H1 => if b = true then t D σ H1 else u D σ H1
theorem ps_if {c : Expr} {a b : List Stmt} {tc : TT} (hc : PT X c tc) (ha : PSs X a t) (hb : PSs X b u) : PS X (.If c a b pos) (tIfS tc t u) := by
  intro pins s σ H D I h
  refine wpAny_If (thn (hc pins s σ H _ I h) fun d s1 ⟨H1, I1, q1⟩ => ?_)
  cases d with
  | true => exact ha pins s1 σ H1 D I1 q1
  | false => exact hb pins s1 σ H1 D I1 q1
/-- code that the proof never comes to -/
def tNever : TS := fun _ _ _ => False
theorem ps_never : PS X st tNever := fun _ _ _ _ _ _ h => h.elim
end

/-! ### targets -/
abbrev TG := V → St → Hp → (St → Hp → Prop) → Prop
abbrev TGs := List V → St → Hp → (St → Hp → Prop) → Prop
def PG (X : Cx) (target : Expr) (t : TG) : Prop :=
  ∀ (pins : List (Addr × Obj)) (s : Shared) (σ : St) (H : Hp) (v : V) (u : Value) (Q : St → Hp → Prop), Inv X pins σ H s → RelV v u → t v σ H Q →
    wpAny (model X.prog X.w) X.A (assign target X.env u) (fun _ s' => ∃ σ' H', Inv X pins σ' H' s' ∧ Q σ' H') X.xe s
/-- several targets, one after another -/
def PGs (X : Cx) (ts : List Expr) (t : TGs) : Prop :=
  ∀ (pins : List (Addr × Obj)) (s : Shared) (σ : St) (H : Hp) (vs : List V) (us : List Value) (Q : St → Hp → Prop), Inv X pins σ H s → Vals vs us → t vs σ H Q →
    wpAny (model X.prog X.w) X.A (assignInOrder ((assignEach ts X.env).map (·.2)) us) (fun _ s' => ∃ σ' H', Inv X pins σ' H' s' ∧ Q σ' H') X.xe s
/-- o[i] = v, by values -/
abbrev TSet := V → V → V → Hp → (Hp → Prop) → Prop
def PSet (X : Cx) (t : TSet) : Prop :=
  ∀ (pins : List (Addr × Obj)) (s : Shared) (σ : St) (H : Hp) (o i v : V) (ov iv u : Value) (Q : Hp → Prop), Inv X pins σ H s → RelV o ov → RelV i iv → RelV v u → t o i v H Q →
    wpAny (model X.prog X.w) X.A (setItem ov iv u) (fun _ s' => ∃ H', Inv X pins σ H' s' ∧ Q H') X.xe s
/-- a op= b, by values -/
abbrev TIp := V → V → Hp → VK → Prop
def PIp (X : Cx) (op : Operator) (t : TIp) : Prop :=
  ∀ (pins : List (Addr × Obj)) (s : Shared) (σ : St) (H : Hp) (x y : V) (v u : Value) (Q : VK), Inv X pins σ H s → RelV x v → RelV y u → t x y H Q →
    wpAny (model X.prog X.w) X.A (inplaceOp op v u) (EP X pins σ Q) X.xe s
section
variable {X : Cx} {pos : Pos}
def gName (i : Nat) : TG := fun v σ H Q => Q (σ.set i (some v)) H
theorem pg_name {i : Nat} {x : Str} (hN : X.N.Nodup) (hi : X.N[i]? = some x) (hx : Loc X.env.scope x) (hf : X.fn x = true ∨ X.env.scope.names.lookup x = some .local := by first | exact .inl rfl | exact .inr rfl | assumption) : PG X (.Name x pos) (gName i) := by
  intro pins s σ H v u Q I r h
  exact wpAny_assign_Name (store_ok I hN hi hx r (fun s' I' => ⟨_, H, I', h⟩) hf)
def gNil : TGs := fun vs σ H Q => vs = [] ∧ Q σ H
def gCons (t : TG) (u : TGs) : TGs := fun vs σ H Q => ∃ v r, vs = v :: r ∧ t v σ H fun σ' H' => u r σ' H' Q
theorem pgs_nil : PGs X [] gNil := by
  intro pins s σ H vs us Q I r h
  obtain ⟨e, h⟩ := h
  subst e
  cases r
  exact assignInOrder_nil ⟨σ, H, I, h⟩
theorem pgs_cons {e : Expr} {es : List Expr} {t : TG} {u : TGs} (h1 : PG X e t) (h2 : PGs X es u)
    (hs : (assignEach (e :: es) X.env).map (·.2) = assign e X.env :: (assignEach es X.env).map (·.2) := by rfl) : PGs X (e :: es) (gCons t u) := by
  intro pins s σ H vs us Q I r h
  obtain ⟨v, vr, e1, h⟩ := h
  subst e1
  cases r with
  | cons r rr =>
    rw [hs]
    refine assignInOrder_cons (thn (h1 pins s σ H _ _ _ I r h) fun _ s1 ⟨σ1, H1, I1, q1⟩ => ?_)
    exact h2 pins s1 σ1 H1 _ _ Q I1 rr q1
/-- (a, b, ..) = a tuple of that length -/
def gTup (K : PySem.W.Frag) (n : Nat) (t : TGs) : TG := fun v σ H Q => ∃ a xs, v = .ref a ∧ SqT K H a xs ∧ xs.length = n ∧ t xs σ H Q
theorem pg_tup {es : List Expr} {k : Nat} {t : TGs} {n : Nat} (hc : X.calm = true) (h : PGs X es t)
    (hn : (assignEach es X.env).length = n := by rfl) (hst : (assignEach es X.env).findIdx? (·.1) = none := by rfl) : PG X (.Tuple es k pos) (gTup X.K n t) := by
  intro pins s σ H v u Q I r hw
  obtain ⟨a, xs, e1, hq, hl, hw⟩ := hw
  subst e1
  cases r
  obtain ⟨its, rv, ht, hz⟩ := I.tuple hq
  refine assign_Tuple_tuple (I.ok.hd hc) ht (by simp [hn, ← hl, rv.length]) hst fun h' hx => ?_
  have I1 : Inv X pins σ H { s with heap := h' } := I.kept (t' := s.toks) fun b o e => hx b o (Nat.ne_of_lt (Heap.lt_size e)) e
  exact h pins _ σ H xs _ Q I1 (by simpa using rv) hw
/-- o[i] = .. -/
def gSub (to ti : TE) (t : TSet) : TG := fun v σ H Q => to σ H fun o H1 => ti σ H1 fun i H2 => t o i v H2 fun H3 => Q σ H3
theorem pg_sub {o i : Expr} {to ti : TE} {t : TSet} (ho : PE X o to) (hi : PE X i ti) (hs : PSet X t)
    (ha : ∀ v, assign (.Subscript o i pos) X.env v = (do
      let ov ← holding [v] (eval o X.env)
      let iv ← holding [v, ov] (eval i X.env)
      standAt pos
      holding [v, ov, iv] (setItem ov iv v)
      release [v, ov, iv] []) := by intro _; rfl) : PG X (.Subscript o i pos) (gSub to ti t) := by
  intro pins s σ H v u Q I r h
  rw [ha]
  refine wpAny_bind (wpAny_holding (thn (ho pins s σ H _ I h) fun ov s1 ⟨x, H1, I1, r1, q1⟩ => ?_))
  refine wpAny_bind (wpAny_holding (thn (hi pins s1 σ H1 _ I1 q1) fun iv s2 ⟨y, H2, I2, r2, q2⟩ => ?_))
  refine wpAny_bind (wpAny_standAt (wpAny_bind (wpAny_holding (thn (hs pins s2 σ H2 x y v ov iv u _ I2 r1 r2 r q2) fun _ s3 ⟨H3, I3, q3⟩ => ?_))))
  exact wpAny_release ⟨σ, H3, I3, q3⟩
/-- target = value -/
def tAsg (te : TE) (g : TG) : TS := fun D σ H => te σ H fun x H1 => g x σ H1 D.nx
theorem ps_asg {tg e : Expr} {te : TE} {g : TG} (he : PE X e te) (hg : PG X tg g) (hs : swapsWithSole [tg] e pos.line X.env = pure false := by rfl) (hw : swappedStores [tg] e X.env = pure none := by rfl)
    (h1 : (assignEach [tg] X.env).map (·.2) = [assign tg X.env] := by rfl) : PS X (.Assign [tg] e pos) (tAsg te g) := by
  intro pins s σ H D I h
  refine wpAny_Assign_stores (thn (he pins s σ H _ I h) fun v s1 ⟨x, H1, I1, r1, q1⟩ => ?_) hs hw
  rw [h1]
  exact thn (hg pins s1 σ H1 x v _ I1 r1 q1) fun _ s2 q => q
/-- name = value -/
theorem ps_set {i : Nat} {x : Str} {e : Expr} {te : TE} {pos' : Pos} (hN : X.N.Nodup) (hi : X.N[i]? = some x) (hx : Loc X.env.scope x) (he : PE X e te) (hs : swapsWith e (some (.Name x pos')) pos.line X.env = pure false := by rfl) (hf : X.fn x = true ∨ X.env.scope.names.lookup x = some .local := by first | exact .inl rfl | exact .inr rfl | assumption) :
    PS X (.Assign [.Name x pos'] e pos) (tAsg te (gName i)) := by
  intro pins s σ H D I h
  refine wpAny_Assign_Name (thn (he pins s σ H _ I h) fun v s1 ⟨y, H1, I1, r1, q1⟩ => ?_) hs
  exact store_ok I1 hN hi hx r1 (fun s2 I2 => ⟨_, H1, I2, q1⟩) hf
/-- a, b = x, y with plain local names: stored from the right; the pair itself is not tracked (the opening rows as in PyProof/Rows/TupAssign.lean:23) -/
def tPar (i j : Nat) (ta : TA) : TS := fun D σ H => ta σ H fun vs H1 => ∃ v w, vs = [v, w] ∧ D.nx ((σ.set i (some v)).set j (some w)) H1
/-- name op= e -/
def tAug (i : Nat) (te : TE) (ti : TIp) : TS := fun D σ H => ∃ x, σ[i]? = some (some x) ∧ te σ H fun y H1 => ti x y H1 fun z H2 => D.nx (σ.set i (some z)) H2
/-- o[i] op= e -/
def tAugS (to ti te : TE) (tget : V → V → Hp → VK → Prop) (tip : TIp) (tset : TSet) : TS := fun D σ H => to σ H fun o H1 => ti σ H1 fun i H2 => tget o i H2 fun x H3 => te σ H3 fun y H4 => tip x y H4 fun z H5 => tset o i z H5 fun H6 => D.nx σ H6
/-- o[i], by values -/
def PGet (X : Cx) (t : V → V → Hp → VK → Prop) : Prop :=
  ∀ (pins : List (Addr × Obj)) (s : Shared) (σ : St) (H : Hp) (o i : V) (ov iv : Value) (Q : VK), Inv X pins σ H s → RelV o ov → RelV i iv → t o i H Q →
    wpAny (model X.prog X.w) X.A (getItem ov iv) (EP X pins σ Q) X.xe s
/-- ints -/
def ipI (f : Int → Int → Int) : TIp := fun x y H Q => ∃ i j, x = .int i ∧ y = .int j ∧ Q (.int (f i j)) H
end

/-! ### while -/
section
variable {X : Cx} {pos : Pos}
/-- the invariant W with its measure -/
def tWhile (c : TT) (tb : TS) : TS := fun D σ H => ∃ W : Nat → St → Hp → Prop, (∃ m, W m σ H) ∧ ∀ m σ H, W m σ H →
  c σ H fun b H1 => if b = true then ∃ N : St → Hp → Prop, (∀ σ' H', N σ' H' → ∃ m', m' < m ∧ W m' σ' H') ∧ tb { D with nx := N, ct := N, bk := D.nx } σ H1 else D.nx σ H1
end

/-! ### what a loop or a comprehension walks -/
/-- at turn i: it yields x (the heap may grow), or it stops -/
structure It where
  go : Nat → Hp → Prop
  yld : Nat → Hp → V → Hp → Prop
  stop : Nat → Hp → Prop
/-- the iterator's own objects may turn: they are not the frame's, not pinned, younger than the entry (or a comprehension's own) -/
def FpOk (X : Cx) (pins : List (Addr × Obj)) (H : Hp) (b : Addr) : Prop :=
  H b = none ∧ b ≠ X.env.locals ∧ b ∉ X.fs ∧ (b ∈ X.ex ∨ X.s₀.heap.objs.size ≤ b) ∧ (∀ x c, X.env.cells.lookup x = some c → c ≠ b) ∧ ∀ p ∈ X.pn ++ pins, p.1 ≠ b
theorem Inv.fpOk {X : Cx} {pins : List (Addr × Obj)} {σ : St} {H H' : Hp} {s : Shared} {b : Addr} (I : Inv X pins σ H s) (hb : s.heap.objs.size ≤ b) (hn : H' b = none) : FpOk X pins H' b := by
  refine ⟨hn, Nat.ne_of_gt (Nat.lt_of_lt_of_le I.lt hb), I.nofs hb, .inr (Nat.le_trans I.sz hb), fun x c e z => ?_, fun p hp z => ?_⟩
  · obtain ⟨v, q⟩ := I.cell x c e
    exact absurd (Nat.lt_of_lt_of_le q.lt (by rw [z]; exact hb)) (Nat.lt_irrefl _)
  · exact absurd (Nat.lt_of_lt_of_le (Heap.lt_size (I.pin p hp).1) (by rw [z]; exact hb)) (Nat.lt_irrefl _)
structure Turn (P : Program) (w : World) (K : PySem.W.Frag) (tg : Expr) (J : It) (fp : List Addr) (it : Addr) (tn : Nat → Heap → Prop) : Prop where
  mem : it ∈ fp
  obj : ∀ i h, tn i h → ∀ b ∈ fp, ∃ o, h.get? b = some o ∧ ∀ v, o.data ≠ .cell v
  keep : ∀ i h h', tn i h → (∀ b ∈ fp, ∀ o, h.get? b = some o → h'.get? b = some o) → tn i h'
  item : ∀ (X : Cx), X.prog = P → X.w = w → X.K = K → X.calm = true → ∀ (i : Nat) (pins : List (Addr × Obj)) (s : Shared) (σ : St) (H : Hp) (E : Value → Shared → Prop), Inv X pins σ H s → (∀ b ∈ fp, FpOk X pins H b) → tn i s.heap → J.go i H →
    wpAny (model P w) X.A (pyNext (.ref it)) (fun r s1 => ∃ u, r = some u ∧
      wpAny (model P w) X.A (letOwnedTupleGo tg (.ref it) u) (fun _ s2 => ∃ x H', Inv X pins σ H' s2 ∧ RelV x u ∧ J.yld i H x H' ∧ tn (i + 1) s2.heap ∧ ∀ b ∈ fp, H' b = none) E s1) E s
  done : ∀ (X : Cx), X.prog = P → X.w = w → X.K = K → X.calm = true → ∀ (i : Nat) (pins : List (Addr × Obj)) (s : Shared) (σ : St) (H : Hp) (E : Value → Shared → Prop), Inv X pins σ H s → (∀ b ∈ fp, FpOk X pins H b) → tn i s.heap → J.stop i H →
    wpAny (model P w) X.A (pyNext (.ref it)) (fun r s1 => r = none ∧ Inv X pins σ H s1) E s
  self : ∀ (A : Around) (i : Nat) (s : Shared) (Q : Value → Shared → Prop) (E : Value → Shared → Prop), tn i s.heap → Q (.ref it) s → wpAny (model P w) A (pyIter (.ref it)) Q E s
abbrev TI := St → Hp → (It → Hp → Prop) → Prop
/-- an iterator has come -/
def PIE (X : Cx) (pins : List (Addr × Obj)) (σ : St) (tg : Expr) (R : It → Hp → Prop) (itv : Value) (s2 : Shared) : Prop :=
  ∃ (it : Addr) (fp : List Addr) (tn : Nat → Heap → Prop) (J : It) (H' : Hp), itv = .ref it ∧ Inv X pins σ H' s2 ∧ Turn X.prog X.w X.K tg J fp it tn ∧ tn 0 s2.heap ∧ (∀ b ∈ fp, FpOk X pins H' b) ∧ R J H'
def PI (X : Cx) (tg iter : Expr) (wi : TI) : Prop :=
  ∀ (pins : List (Addr × Obj)) (s : Shared) (σ : St) (H : Hp) (R : It → Hp → Prop), Inv X pins σ H s → wi σ H R →
    wpAny (model X.prog X.w) X.A (eval iter X.env) (fun v s1 => wpAny (model X.prog X.w) X.A (pyIter v) (PIE X pins σ tg R) X.xe s1) X.xe s

/-- the step ahead of the store is nothing for an iterator that keeps no tuple -/
theorem go_of {M : Model} {A : Around} {E : Value → Shared → Prop} {s : Shared} {tg : Expr} {it : Addr} {u : Value} {o : Obj} {n : String} {vs : Array Value} {Q : Unit → Shared → Prop} (ho : s.heap.get? it = some o) (hc : o.cls = .type n) (hd : o.data = .fields vs)
    (hn : ["enumerate", "zip", "dict_itemiterator", "dict_reverseitemiterator", "odict_iterator", "itertools.zip_longest", "itertools.pairwise"].contains n = false) (hQ : Q () s) : wpAny M A (letOwnedTupleGo tg (.ref it) u) Q E s := by
  unfold letOwnedTupleGo
  cases tg <;> first
    | exact wpAny_pure hQ
    | (cases u <;> first
        | exact wpAny_pure hQ
        | (refine wpAny_bind (wpAny_load ho ?_)
           rw [hc, hd]
           show wpAny M A (if (["enumerate", "zip", "dict_itemiterator", "dict_reverseitemiterator", "odict_iterator", "itertools.zip_longest", "itertools.pairwise"].contains n && vs[0]? == some (rawInt _)) = true then _ else _) Q E s
           rw [if_neg (by intro h; rw [hn, Bool.false_and] at h; cases h)]
           exact wpAny_pure hQ))

/-- the list at a, as it stands at each turn (a loop may append to it) -/
def Itl (K : PySem.W.Frag) (a : Addr) : It :=
  ⟨fun i H => ∃ xs x, SqL K H a xs ∧ xs[i]? = some x, fun i H x H' => H' = H ∧ ∀ xs, SqL K H a xs → xs[i]? = some x, fun i H => ∃ xs, SqL K H a xs ∧ xs.length ≤ i⟩
def Itt (K : PySem.W.Frag) (a : Addr) : It :=
  ⟨fun i H => ∃ xs x, SqT K H a xs ∧ xs[i]? = some x, fun i H x H' => H' = H ∧ ∀ xs, SqT K H a xs → xs[i]? = some x, fun i H => ∃ xs, SqT K H a xs ∧ xs.length ≤ i⟩
/-- lo, lo + 1, .. (n of them) -/
def Itr (lo : Int) (n : Nat) : It := ⟨fun i _ => i < n, fun i H x H' => H' = H ∧ x = .int (lo + i), fun i _ => n ≤ i⟩
theorem turn_list {P : Program} {w : World} {K : PySem.W.Frag} {tg : Expr} (a it : Addr) : Turn P w K tg (Itl K a) [it] it (fun i h => h.IsListIter it a i) where
  mem := by simp
  obj := fun i h st b hb => by
    have e : b = it := by simpa using hb
    subst e
    obtain ⟨o, e, c, d⟩ := st
    exact ⟨o, e, fun v z => by rw [d] at z; cases z⟩
  keep := fun i h h' st k => st.at fun o e => k it (by simp) o e
  item := by
    intro X hP hw hK hc i pins s σ H E I hf st hg
    subst hP hw hK
    obtain ⟨xs, x, hq, hx⟩ := hg
    obtain ⟨its, rv, p, hz⟩ := I.list hq
    obtain ⟨u, hu, ru⟩ := rv.get hx
    obtain ⟨f0, f1, f2, f3, f4, f5⟩ := hf it (by simp)
    refine wpAny_pyNext_list_item st p.isList (x := u) (by simpa using hu) fun h' st' sb => ?_
    have I1 : Inv X pins σ H { s with heap := h' } := I.turned (t' := s.toks) (fun b o hb e => (sb.2 b hb).trans e) f0 f1 f3 f4 f5
    obtain ⟨o, e, c, d⟩ := id st'
    exact ⟨u, rfl, go_of (s := { s with heap := h' }) e c d (by decide) ⟨x, H, I1, ru, ⟨rfl, fun ys hy => by rw [I.list_inj hy hq]; exact hx⟩, st', fun b hb => (hf b hb).1⟩⟩
  done := by
    intro X hP hw hK hc i pins s σ H E I hf st hg
    subst hP hw hK
    obtain ⟨xs, hq, hx⟩ := hg
    obtain ⟨its, rv, p, hz⟩ := I.list hq
    obtain ⟨f0, f1, f2, f3, f4, f5⟩ := hf it (by simp)
    have hl := rv.length
    exact wpAny_pyNext_list_end (I.ok.hd hc) st p.isList (by simp; omega) fun h' eb => ⟨rfl, I.turned (t' := s.toks) (fun b o hb e => eb b o hb e) f0 f1 f3 f4 f5⟩
  self := fun _ _ _ _ _ st h => wpAny_pyIter_listiter st h
theorem turn_range {P : Program} {w : World} {K : PySem.W.Frag} {tg : Expr} (it : Addr) (lo : Int) (n : Nat) : Turn P w K tg (Itr lo n) [it] it (fun i h => IsRangeIter h it (lo + (i : Nat) * 1) ((n : Int) - (i : Nat)) 1) where
  mem := by simp
  obj := fun i h st b hb => by
    have e : b = it := by simpa using hb
    subst e
    exact ⟨_, st, fun v z => by
      have z' : Data.fields _ = Data.cell v := z
      cases z'⟩
  keep := fun i h h' st k => k it (by simp) _ st
  item := by
    intro X hP hw hK hc i pins s σ H E I hf st hg
    subst hP hw hK
    obtain ⟨f0, f1, f2, f3, f4, f5⟩ := hf it (by simp)
    have W := Walks.range (prog := X.prog) (w := X.w) (I.ok.hd hc) it lo 1 n
    refine W.item i s _ _ hg st fun v h' tk hv st' kk => ?_
    obtain ⟨t, rfl⟩ := hv
    have I1 : Inv X pins σ H { s with heap := h', toks := tk } := I.turned (fun b o hb e => kk b o (by simpa using hb) e) f0 f1 f3 f4 f5
    refine ⟨_, rfl, go_of (s := { s with heap := h', toks := tk }) (n := "range_iterator") st' rfl rfl (by decide) ⟨.int (lo + i), H, I1, ⟨t, ?_⟩, ⟨rfl, rfl⟩, st', fun b hb => (hf b hb).1⟩⟩
    rw [Int.mul_one]
  done := by
    intro X hP hw hK hc i pins s σ H E I hf st hg
    subst hP hw hK
    obtain ⟨f0, f1, f2, f3, f4, f5⟩ := hf it (by simp)
    exact wpAny_pyNext_range_end (I.ok.hd hc) st (by have : n ≤ i := hg; omega) fun h' eb => ⟨rfl, I.turned (t' := s.toks) (fun b o hb e => eb b o hb e) f0 f1 f3 f4 f5⟩
  self := fun _ _ _ _ _ st h => wpAny_pyIter_rangeiter st h
end L2

namespace L2
open PySem PySem.Spec PyProof.Rows
section
variable {X : Cx} {tg : Expr}
def iList (K : PySem.W.Frag) (tl : TE) : TI := fun σ H R => tl σ H fun x H1 => ∃ a, x = .ref a ∧ (∃ xs, SqL K H1 a xs) ∧ R (Itl K a) H1
def iTup (K : PySem.W.Frag) (tl : TE) : TI := fun σ H R => tl σ H fun x H1 => ∃ a, x = .ref a ∧ (∃ xs, SqT K H1 a xs) ∧ R (Itt K a) H1
theorem pi_list {l : Expr} {tl : TE} (hl : PE X l tl) : PI X tg l (iList X.K tl) := by
  intro pins s σ H R I h
  refine thn (hl pins s σ H _ I h) fun v s1 ⟨x, H1, I1, r1, q1⟩ => ?_
  obtain ⟨a, e, ⟨xs, hq⟩, q⟩ := q1
  subst e
  cases r1
  obtain ⟨its, rv, p, hz⟩ := I1.list hq
  refine wpAny_pyIter_list p.isList ?_
  refine ⟨s1.heap.objs.size, [s1.heap.objs.size], _, _, H1, rfl, I1.kept (t' := s1.toks) fun b o e => Heap.get?_push_of_some _ e, turn_list a _, ⟨_, Heap.get?_push_size _ rfl, rfl, rfl⟩, fun b hb => ?_, q⟩
  have e : b = s1.heap.objs.size := by simpa using hb
  subst e
  exact I1.fpOk (Nat.le_refl _) (I1.hok.fresh (Nat.le_refl _))
/-- a range object just made, walked -/
theorem range_it {pins : List (Addr × Obj)} {σ : St} {H : Hp} {s : Shared} {R : It → Hp → Prop} {E : Value → Shared → Prop} {lo hi : Int} {t u v : Tok} {tk : Nat} (I : Inv X pins σ H s) (h1 : -(2 ^ 62) ≤ lo) (h2 : lo < 2 ^ 62) (h3 : -(2 ^ 62) ≤ hi) (h4 : hi < 2 ^ 62)
    (q : R (Itr lo (hi - lo).toNat) H) : wpAny (model X.prog X.w) X.A (pyIter (.ref s.heap.objs.size)) (PIE X pins σ tg R) E { s with heap := s.heap.push { cls := .type "range", data := .fields #[.int lo t, .int hi u, .int 1 v] }, toks := tk } := by
  refine wpAny_pyIter_range (IsRange.new ..) (small_one h1 h2 h3 h4) ?_
  have I1 : Inv X pins σ H { s with heap := s.heap.push { cls := .type "range", data := .fields #[.int lo t, .int hi u, .int 1 v] }, toks := tk } := I.kept fun b o e => Heap.get?_push_of_some _ e
  refine ⟨(s.heap.push { cls := .type "range", data := .fields #[.int lo t, .int hi u, .int 1 v] }).objs.size, [(s.heap.push { cls := .type "range", data := .fields #[.int lo t, .int hi u, .int 1 v] }).objs.size], _, _, H, rfl,
    I1.kept (t' := tk) fun b o e => Heap.get?_push_of_some _ e, turn_range _ lo (hi - lo).toNat, ?_, fun b hb => ?_, q⟩
  · have e1 : lo + ((0 : Nat) : Int) * 1 = lo := by simp
    have e2 : (((hi - lo).toNat : Nat) : Int) - ((0 : Nat) : Int) = Builtin.Range.rangeSize lo hi 1 := by rw [rangeSize_one]; split <;> omega
    show IsRangeIter _ _ (lo + ((0 : Nat) : Int) * 1) ((((hi - lo).toNat : Nat) : Int) - ((0 : Nat) : Int)) 1
    rw [e1, e2]
    exact Heap.get?_push_size _ rfl
  · have e : b = (s.heap.push { cls := .type "range", data := .fields #[.int lo t, .int hi u, .int 1 v] }).objs.size := by simpa using hb
    subst e
    exact I1.fpOk (Nat.le_refl _) (I1.hok.fresh (Nat.le_refl _))
def iRng1 (ta : TA) : TI := fun σ H R => ta σ H fun vs H1 => ∃ j : Int, vs = [.int j] ∧ -(2 ^ 62) ≤ j ∧ j < 2 ^ 62 ∧ R (Itr 0 j.toNat) H1
def iRng2 (ta : TA) : TI := fun σ H R => ta σ H fun vs H1 => ∃ i j : Int, vs = [.int i, .int j] ∧ (-(2 ^ 62) ≤ i ∧ i < 2 ^ 62 ∧ -(2 ^ 62) ≤ j ∧ j < 2 ^ 62) ∧ R (Itr i (j - i).toNat) H1
theorem pi_range1 {a : Expr} {ta : TA} {p pos : Pos} (hg : Gl X "range") (hm : X.mg "range" = none) (ha : PA X [a] ta) (hs : starEach [a] X.env = [(false, eval a X.env)] := by rfl) : PI X tg (.Call (.Name "range" p) [a] [] pos) (iRng1 ta) := by
  intro pins s σ H R I h
  refine Call_ (ld_blt I hg hm boot_range (PyProof.Rows.callWith_type1 (thn (ha pos pins s σ H _ I h) fun us s1 ⟨vs, H1, I1, r1, q1⟩ => ?_) hs rfl))
  obtain ⟨j, e, q1, q2, q⟩ := q1
  subst e
  cases r1 with
  | cons r rr =>
    cases rr
    obtain ⟨t, rfl⟩ := r
    exact call_range_1 (range_it I1 (by omega) (by omega) q1 q2 (by simpa using q))
theorem pi_range2 {a b : Expr} {ta : TA} {p pos : Pos} (hg : Gl X "range") (hm : X.mg "range" = none) (ha : PA X [a, b] ta) (hs : starEach [a, b] X.env = [(false, eval a X.env), (false, eval b X.env)] := by rfl) (hs2 : starEach [b] X.env = [(false, eval b X.env)] := by rfl) :
    PI X tg (.Call (.Name "range" p) [a, b] [] pos) (iRng2 ta) := by
  intro pins s σ H R I h
  refine Call_ (ld_blt I hg hm boot_range (PyProof.Rows.callWith_type1 (thn (ha pos pins s σ H _ I h) fun us s1 ⟨vs, H1, I1, r1, q1⟩ => ?_) (by rw [hs, hs2]) (by rw [hs2]; rfl)))
  obtain ⟨i, j, e, ⟨q1, q2, q3, q4⟩, q⟩ := q1
  subst e
  cases r1 with
  | cons r rr =>
    cases rr with
    | cons r' rr =>
      cases rr
      obtain ⟨t, rfl⟩ := r
      obtain ⟨t', rfl⟩ := r'
      exact call_range_2 (range_it I1 q1 q2 q3 q4 q)

/-! ### for -/
/-- W: the invariant by the turn and a measure; N: what the body is to reach -/
def tFor (wi : TI) (g : TG) (tb : TS) : TS := fun D σ H => wi σ H fun J H1 => ∃ W : Nat → Nat → St → Hp → Prop, (∃ m, W 0 m σ H1) ∧ ∀ i m σ H, W i m σ H →
  (J.stop i H ∧ D.nx σ H) ∨ (J.go i H ∧ ∃ N : St → Hp → Prop, (∀ σ' H', N σ' H' → ∃ m', m' < m ∧ W (i + 1) m' σ' H') ∧ ∀ x H', J.yld i H x H' → g x σ H' fun σ2 H2 => tb { D with nx := N, ct := N, bk := D.nx } σ2 H2)
/-- the records at fp as they stand -/
def pinsAt (fp : List Addr) (h : Heap) : List (Addr × Obj) := fp.filterMap fun b => (h.get? b).map fun o => (b, o)
theorem mem_pinsAt {fp : List Addr} {h : Heap} {b : Addr} {o : Obj} (hb : b ∈ fp) (e : h.get? b = some o) : (b, o) ∈ pinsAt fp h := List.mem_filterMap.mpr ⟨b, hb, by rw [e]; rfl⟩
theorem of_pinsAt {fp : List Addr} {h : Heap} {p : Addr × Obj} (hp : p ∈ pinsAt fp h) : p.1 ∈ fp ∧ h.get? p.1 = some p.2 := by
  obtain ⟨b, hb, e⟩ := List.mem_filterMap.mp hp
  cases q : h.get? b with
  | none => rw [q] at e; cases e
  | some o =>
    rw [q] at e
    have e' : (b, o) = p := Option.some.inj e
    subst e'
    exact ⟨hb, q⟩
theorem Inv.pinned {pins : List (Addr × Obj)} {σ : St} {H : Hp} {s : Shared} {fp : List Addr} (I : Inv X pins σ H s) (hf : ∀ b ∈ fp, FpOk X pins H b) (ho : ∀ b ∈ fp, ∃ o, s.heap.get? b = some o ∧ ∀ v, o.data ≠ .cell v) : Inv X (pins ++ pinsAt fp s.heap) σ H s :=
  I.pins_of fun p hp => (List.mem_append.mp hp).elim (fun z => I.pin p (List.mem_append_right _ z)) fun z => by
    obtain ⟨hb, e⟩ := of_pinsAt z
    obtain ⟨f0, f1, f2, _⟩ := hf p.1 hb
    obtain ⟨o, e', d⟩ := ho p.1 hb
    rw [e] at e'; cases e'
    exact ⟨e, f0, f1, f2, d⟩
theorem Inv.unpinned {pins pl : List (Addr × Obj)} {σ : St} {H : Hp} {s : Shared} (I : Inv X (pins ++ pl) σ H s) : Inv X pins σ H s := I.pins_of fun p hp => I.pin p (List.mem_append_right _ (List.mem_append_left _ hp))
theorem ps_for {iter : Expr} {body : List Stmt} {wi : TI} {g : TG} {tb : TS} {pos : Pos} (hp : PassesOwn (model X.prog X.w) X.A X.env X.xe) (hc : X.calm = true) (hi : PI X tg iter wi) (hg : PG X tg g) (hb : PSs X body tb)
    (hs : ∀ x, foldedSetIterable iter X.env x = pure x := by intro _; rfl) : PS X (.For tg iter body [] pos) (tFor wi g tb) := by
  intro pins s σ H D I h
  refine wpAny_For (thn (hi pins s σ H _ I h) fun v s1 h1 => thn h1 fun itv s2 h2 => ?_) hs
  obtain ⟨it, fp, tn, J, H2, e, I2, T, st2, f2, W, ⟨m0, w0⟩, turn⟩ := h2
  subst e
  -- what stays true of the iterator's objects through the loop
  have stat : ∀ {H' : Hp}, (∀ b ∈ fp, H' b = none) → ∀ b ∈ fp, FpOk X pins H' b := fun hn b hb => ⟨hn b hb, (f2 b hb).2⟩
  refine codeAny_forLoop_any (fun n s' => ∃ i σ' H', Inv X pins σ' H' s' ∧ tn i s'.heap ∧ (∀ b ∈ fp, H' b = none) ∧ W i n σ' H') ?_ m0 ⟨0, σ, H2, I2, st2, fun b hb => (f2 b hb).1, w0⟩
  rintro n s3 ⟨i, σ3, H3, I3, st3, fr3, w3⟩
  rcases turn i n σ3 H3 w3 with ⟨stop, qn⟩ | ⟨go, N, hN, step⟩
  · refine wpAny_passesOwn hp (thn (T.done X rfl rfl rfl hc i pins s3 σ3 H3 X.xe I3 (stat fr3) st3 stop) fun r s4 ⟨hr, I4⟩ => ?_)
    subst hr
    exact wpAny_execs_nil ⟨σ3, H3, I4, qn⟩
  · refine wpAny_passesOwn hp (thn (T.item X rfl rfl rfl hc i pins s3 σ3 H3 X.xe I3 (stat fr3) st3 go) fun r s4 ⟨u, hr, h4⟩ => ?_)
    subst hr
    refine wpAny_passesOwn hp (thn h4 fun _ s5 ⟨x, H5, I5, r5, y5, st5, fr5⟩ => ?_)
    have I5' := I5.pinned (stat fr5) (T.obj _ _ st5)
    refine wpAny_passesOwn hp (thn (hg _ s5 σ3 H5 x u _ I5' r5 (step x H5 y5)) fun _ s6 ⟨σ6, H6, I6, q6⟩ => ?_)
    refine wpAny_passesOwn hp (thn (hb _ s6 σ6 H6 _ I6 q6) fun f s7 q7 => ?_)
    have again : ∀ {σ7 : St} {H7 : Hp}, Inv X (pins ++ pinsAt fp s5.heap) σ7 H7 s7 → N σ7 H7 → ∃ m, m < n ∧ ∃ i σ' H', Inv X pins σ' H' s7 ∧ tn i s7.heap ∧ (∀ b ∈ fp, H' b = none) ∧ W i m σ' H' := fun {σ7 H7} I7 n7 => by
      obtain ⟨m', hm, w7⟩ := hN σ7 H7 n7
      refine ⟨m', hm, i + 1, σ7, H7, I7.unpinned, T.keep _ _ _ st5 fun b hb o e => (I7.pin (b, o) (List.mem_append_right _ (List.mem_append_right _ (mem_pinsAt hb e)))).1, fun b hb => ?_, w7⟩
      obtain ⟨o, e, d⟩ := T.obj _ _ st5 b hb
      exact (I7.pin (b, o) (List.mem_append_right _ (List.mem_append_right _ (mem_pinsAt hb e)))).2.1
    cases f with
    | next => obtain ⟨σ7, H7, I7, n7⟩ := q7; exact again I7 n7
    | cont => obtain ⟨σ7, H7, I7, n7⟩ := q7; exact again I7 n7
    | brk => obtain ⟨σ7, H7, I7, q7⟩ := q7; exact ⟨σ7, H7, I7.unpinned, q7⟩
    | ret v => obtain ⟨x7, σ7, H7, I7, r7, q7⟩ := q7; exact ⟨x7, σ7, H7, I7.unpinned, r7, q7⟩
end

/-! ### the forms one uses -/
/-- over a list that the body leaves as it is -/
theorem for_list {K : PySem.W.Frag} {a : Addr} {xs : List V} {g : TG} {tb : TS} {D : Ends} {σ : St} {H : Hp} (Pv : Nat → St → Hp → Prop) (h0 : Pv 0 σ H) (hl : ∀ i σ H, i ≤ xs.length → Pv i σ H → SqL K H a xs)
    (hs : ∀ i x σ H, xs[i]? = some x → Pv i σ H → g x σ H fun σ2 H2 => tb { D with nx := Pv (i + 1), ct := Pv (i + 1), bk := D.nx } σ2 H2) (hd : ∀ σ H, Pv xs.length σ H → D.nx σ H) :
    ∃ W : Nat → Nat → St → Hp → Prop, (∃ m, W 0 m σ H) ∧ ∀ i m σ H, W i m σ H →
      ((Itl K a).stop i H ∧ D.nx σ H) ∨ ((Itl K a).go i H ∧ ∃ N : St → Hp → Prop, (∀ σ' H', N σ' H' → ∃ m', m' < m ∧ W (i + 1) m' σ' H') ∧ ∀ x H', (Itl K a).yld i H x H' → g x σ H' fun σ2 H2 => tb { D with nx := N, ct := N, bk := D.nx } σ2 H2) := by
  refine ⟨fun i m σ H => m = xs.length - i ∧ i ≤ xs.length ∧ Pv i σ H, ⟨xs.length, by simp, Nat.zero_le _, h0⟩, ?_⟩
  rintro i m σ H ⟨rfl, hi, p⟩
  have q := hl i σ H hi p
  by_cases hlt : i < xs.length
  · refine .inr ⟨⟨xs, xs[i], q, by simp [hlt]⟩, Pv (i + 1), fun σ' H' p' => ⟨xs.length - (i + 1), by omega, rfl, hlt, p'⟩, fun x H' y => ?_⟩
    obtain ⟨e, y⟩ := y
    subst e
    exact hs i x σ _ (y xs q) p
  · have e : i = xs.length := by omega
    subst e
    exact .inl ⟨⟨xs, q, Nat.le_refl _⟩, hd σ H p⟩
theorem for_range {lo : Int} {n : Nat} {g : TG} {tb : TS} {D : Ends} {σ : St} {H : Hp} (Pv : Nat → St → Hp → Prop) (h0 : Pv 0 σ H)
    (hs : ∀ i σ H, i < n → Pv i σ H → g (.int (lo + i)) σ H fun σ2 H2 => tb { D with nx := Pv (i + 1), ct := Pv (i + 1), bk := D.nx } σ2 H2) (hd : ∀ σ H, Pv n σ H → D.nx σ H) :
    ∃ W : Nat → Nat → St → Hp → Prop, (∃ m, W 0 m σ H) ∧ ∀ i m σ H, W i m σ H →
      ((Itr lo n).stop i H ∧ D.nx σ H) ∨ ((Itr lo n).go i H ∧ ∃ N : St → Hp → Prop, (∀ σ' H', N σ' H' → ∃ m', m' < m ∧ W (i + 1) m' σ' H') ∧ ∀ x H', (Itr lo n).yld i H x H' → g x σ H' fun σ2 H2 => tb { D with nx := N, ct := N, bk := D.nx } σ2 H2) := by
  refine ⟨fun i m σ H => m = n - i ∧ i ≤ n ∧ Pv i σ H, ⟨n, by simp, Nat.zero_le _, h0⟩, ?_⟩
  rintro i m σ H ⟨rfl, hi, p⟩
  by_cases hlt : i < n
  · refine .inr ⟨hlt, Pv (i + 1), fun σ' H' p' => ⟨n - (i + 1), by omega, rfl, hlt, p'⟩, fun x H' y => ?_⟩
    obtain ⟨e, y⟩ := y
    subst e y
    exact hs i σ _ hlt p
  · have e : i = n := by omega
    subst e
    exact .inl ⟨Nat.le_refl _, hd σ H p⟩
end L2

namespace L2
open PySem PySem.Spec PyProof.Rows

abbrev R2 := V → V → Hp → VK → Prop
/-- a two-place operation on values: f is binaryOp op, inplaceOp op or compareOp op -/
def OpR (X : Cx) (f : Value → Value → Sem Value) (r : R2) : Prop :=
  ∀ (pins : List (Addr × Obj)) (s : Shared) (σ : St) (H : Hp) (x y : V) (v u : Value) (Q : VK), Inv X pins σ H s → RelV x v → RelV y u → r x y H Q →
    wpAny (model X.prog X.w) X.A (f v u) (EP X pins σ Q) X.xe s
/-- a one-place operation -/
def UnR (X : Cx) (f : Value → Sem Value) (r : V → Hp → VK → Prop) : Prop :=
  ∀ (pins : List (Addr × Obj)) (s : Shared) (σ : St) (H : Hp) (x : V) (v : Value) (Q : VK), Inv X pins σ H s → RelV x v → r x H Q →
    wpAny (model X.prog X.w) X.A (f v) (EP X pins σ Q) X.xe s
/-- a call of a value that is known (a builtin, a type) with values -/
def CallR (X : Cx) (f : Value) (r : List V → Hp → VK → Prop) : Prop :=
  ∀ (pins : List (Addr × Obj)) (s : Shared) (σ : St) (H : Hp) (xs : List V) (us : List Value) (Q : VK), Inv X pins σ H s → Vals xs us → r xs H Q →
    wpAny (model X.prog X.w) X.A (call f us) (EP X pins σ Q) X.xe s
/-- a value's truth -/
def TruR (X : Cx) (r : V → Hp → (Bool → Hp → Prop) → Prop) : Prop :=
  ∀ (pins : List (Addr × Obj)) (s : Shared) (σ : St) (H : Hp) (x : V) (v : Value) (Q : Bool → Hp → Prop), Inv X pins σ H s → RelV x v → r x H Q →
    wpAny (model X.prog X.w) X.A (truthy v) (TP X pins σ Q) X.xe s

def tOp (r : R2) (ta tb : TE) : TE := fun σ H Q => ta σ H fun x H1 => tb σ H1 fun y H2 => r x y H2 Q
def tUn (r : V → Hp → VK → Prop) (ta : TE) : TE := fun σ H Q => ta σ H fun x H1 => r x H1 Q
/-- ints in, under C, and a value out -/
def rI (C : Int → Int → Prop) (g : Int → Int → V) : R2 := fun x y H Q => ∃ i j, x = .int i ∧ y = .int j ∧ C i j ∧ Q (g i j) H
def rI0 (g : Int → Int → V) : R2 := fun x y H Q => ∃ i j, x = .int i ∧ y = .int j ∧ Q (g i j) H
def rU (g : Int → V) : V → Hp → VK → Prop := fun x H Q => ∃ i, x = .int i ∧ Q (g i) H

section
variable {X : Cx} {a b c : Expr} {ta tb tc : TE} {pos : Pos}

theorem binT (ha : PE X a ta) (hb : PE X b tb) {pins : List (Addr × Obj)} {s : Shared} {σ : St} {H : Hp} {R : V → V → Hp → Prop} (I : Inv X pins σ H s)
    (h : ta σ H fun x H1 => tb σ H1 fun y H2 => R x y H2) {Q : Value → Shared → Prop} {f : Value → Value → Sem Value}
    (hf : ∀ v u s2 x y H2, Inv X pins σ H2 s2 → RelV x v → RelV y u → R x y H2 → wpAny (model X.prog X.w) X.A (f v u) Q X.xe s2) :
    wpAny (model X.prog X.w) X.A (eval a X.env) (fun v s₁ => wpAny (model X.prog X.w) X.A (eval b X.env) (fun u s₂ => wpAny (model X.prog X.w) X.A (f v u) Q X.xe s₂) X.xe s₁) X.xe s := by
  refine thn (ha pins s σ H _ I h) fun v s1 ⟨x, H1, I1, r1, q1⟩ => ?_
  refine thn (hb pins s1 σ H1 _ I1 q1) fun u s2 ⟨y, H2, I2, r2, q2⟩ => ?_
  exact hf v u s2 x y H2 I2 r1 r2 q2

theorem pe_op {op : Operator} {r : R2} (ho : OpR X (binaryOp op) r) (ha : PE X a ta) (hb : PE X b tb) : PE X (.BinOp a op b pos) (tOp r ta tb) := by
  intro pins s σ H Q I h
  exact wpAny_BinOp (binT ha hb I h fun v u s2 x y H2 I2 rx ry q => ho pins s2 σ H2 x y v u Q I2 rx ry q)
/-! ### ints -/
theorem opI {f : Value → Value → Sem Value} {C : Int → Int → Prop} {g : Int → Int → Int}
    (rule : ∀ (i j : Int) (t u : Tok) (s : Shared) (Q : Value → Shared → Prop) (E : Value → Shared → Prop), C i j → Q (.int (g i j) s.toks) { s with toks := s.toks + 1 } → wpAny (model X.prog X.w) X.A (f (.int i t) (.int j u)) Q E s) :
    OpR X f (rI C fun i j => .int (g i j)) := by
  intro pins s σ H x y v u Q I rx ry h
  obtain ⟨i, j, rfl, rfl, hc, q⟩ := h
  obtain ⟨t, rfl⟩ := rx
  obtain ⟨t', rfl⟩ := ry
  exact rule i j t t' s _ _ hc ⟨.int (g i j), H, I.tok _, ⟨_, rfl⟩, q⟩
theorem opI0 {f : Value → Value → Sem Value} {g : Int → Int → Int}
    (rule : ∀ (i j : Int) (t u : Tok) (s : Shared) (Q : Value → Shared → Prop) (E : Value → Shared → Prop), Q (.int (g i j) s.toks) { s with toks := s.toks + 1 } → wpAny (model X.prog X.w) X.A (f (.int i t) (.int j u)) Q E s) :
    OpR X f (rI0 fun i j => .int (g i j)) := by
  intro pins s σ H x y v u Q I rx ry h
  obtain ⟨i, j, rfl, rfl, q⟩ := h
  obtain ⟨t, rfl⟩ := rx
  obtain ⟨t', rfl⟩ := ry
  exact rule i j t t' s _ _ ⟨.int (g i j), H, I.tok _, ⟨_, rfl⟩, q⟩
theorem opB0 {f : Value → Value → Sem Value} {g : Int → Int → Bool}
    (rule : ∀ (i j : Int) (t u : Tok) (s : Shared) (Q : Value → Shared → Prop) (E : Value → Shared → Prop), Q (.bool (g i j)) s → wpAny (model X.prog X.w) X.A (f (.int i t) (.int j u)) Q E s) :
    OpR X f (rI0 fun i j => .bl (g i j)) := by
  intro pins s σ H x y v u Q I rx ry h
  obtain ⟨i, j, rfl, rfl, q⟩ := h
  obtain ⟨t, rfl⟩ := rx
  obtain ⟨t', rfl⟩ := ry
  exact rule i j t t' s _ _ ⟨.bl (g i j), H, I, rfl, q⟩

def CDiv (i j : Int) : Prop := 0 < j ∧ j < 1073741824
def CDivN (i j : Int) : Prop := j ≠ 0 ∧ j.natAbs < 1073741824
def CPow (i j : Int) : Prop := 0 ≤ j ∧ j ≤ 1000000 ∧ i.natAbs < 2 ^ 64
def CMul (i j : Int) : Prop := (-(2 ^ 64) < i ∧ i < 2 ^ 64) ∨ (-(2 ^ 64) < j ∧ j < 2 ^ 64)
theorem two_pow_nn (k : Nat) : (0 : Int) ≤ 2 ^ k := by
  rw [two_pow_cast]
  exact Int.natCast_nonneg _

theorem op_add : OpR X (binaryOp .Add) (rI0 fun i j => .int (i + j)) := opI0 fun _ _ _ _ _ _ _ q => add_int q
theorem op_sub : OpR X (binaryOp .Sub) (rI0 fun i j => .int (i - j)) := opI0 fun _ _ _ _ _ _ _ q => sub_int q
/-- % by a positive divisor of any size -/
theorem op_mod : OpR X (binaryOp .Mod) (rI (fun _ j => 0 < j) fun i j => .int (i % j)) := opI fun i j _ _ _ _ _ hc q => by
  have h1 : (0 : Int) < j := hc
  exact mod_int' (by omega) (by rw [Int.fmod_eq_emod_of_nonneg i (by omega)]; exact q)
theorem op_pow : OpR X (binaryOp .Pow) (rI CPow fun i j => .int (i ^ j.toNat)) := opI fun _ _ _ _ _ _ _ hc q => pow_int_small hc.1 hc.2.1 hc.2.2 q
theorem op_shr : OpR X (binaryOp .RShift) (rI (fun _ j => 0 ≤ j) fun i j => .int (i / 2 ^ j.toNat)) := opI fun i j _ _ _ _ _ hc q =>
  rshift_int hc (by rw [Int.fdiv_eq_ediv_of_nonneg i (two_pow_nn _)]; exact q)
theorem op_and : OpR X (binaryOp .BitAnd) (rI0 fun i j => .int (Builtin.bitAnd i j)) := opI0 fun _ _ _ _ _ _ _ q => and_int q
/-! ### bools among ints: n += (a < b) -/
end

/-! ### comparisons -/
/-- the scalars that == tells apart as data does -/
def scal : V → V → Bool
  | .non, .non => true | .non, .int _ => true | .int _, .non => true | .non, .bl _ => true | .bl _, .non => true | .non, .str _ => true | .str _, .non => true
  | .int _, .int _ => true | .bl _, .bl _ => true | .str _, .str _ => true | .byt _, .byt _ => true
  | .int _, .str _ => true | .str _, .int _ => true | .bl _, .str _ => true | .str _, .bl _ => true
  | _, _ => false
def rEq : R2 := fun x y H Q => scal x y = true ∧ Q (.bl (decide (x = y))) H
def rNe : R2 := fun x y H Q => scal x y = true ∧ Q (.bl (!decide (x = y))) H

theorem dec_int {i j : Int} : decide (V.int i = V.int j) = (i == j) := by
  rw [Bool.eq_iff_iff]
  simp
theorem dec_bl {i j : Bool} : decide (V.bl i = V.bl j) = (i == j) := by
  rw [Bool.eq_iff_iff]
  simp
theorem dec_str {i j : Str} : decide (V.str i = V.str j) = (i == j) := by
  rw [Bool.eq_iff_iff]
  simp
theorem dec_byt {i j : Array UInt8} : decide (V.byt i = V.byt j) = (i.toList == j.toList) := by
  rw [Bool.eq_iff_iff]
  cases i
  cases j
  simp

section
variable {X : Cx} {a b c : Expr} {ta tb tc : TE} {pos : Pos}
theorem fin_bl {pins : List (Addr × Obj)} {σ : St} {H : Hp} {s : Shared} {Q : VK} {k k' : Bool} (I : Inv X pins σ H s) (q : Q (.bl k) H) (e : k = k') : EP X pins σ Q (.bool k') s := by
  subst e
  exact ⟨.bl k, H, I, rfl, q⟩
theorem op_eq : OpR X (compareOp .Eq) rEq := by
  intro pins s σ H x y v u Q I rx ry h
  obtain ⟨hs, q⟩ := h
  cases x with
  | non =>
    cases rx
    cases y with
    | non => cases ry; exact PySem.EqNone.eq_none_none (fin_bl I q (by simp))
    | bl j => cases ry; exact PySem.EqNone.eq_none_bool (fin_bl I q (by simp))
    | int j => obtain ⟨t', rfl⟩ := ry; exact PySem.EqNone.eq_none_int (fin_bl I q (by simp))
    | str j => obtain ⟨t', rfl⟩ := ry; exact PySem.EqNone.eq_none_str (fin_bl I q (by simp))
    | _ => exact absurd (show false = true from hs) Bool.false_ne_true
  | bl i =>
    cases rx
    cases y with
    | non => cases ry; exact PySem.EqNone.eq_bool_none (fin_bl I q (by simp))
    | bl j => cases ry; exact eq_bool (fin_bl I q dec_bl)
    | str j => obtain ⟨t', rfl⟩ := ry; exact PySem.EqMixed.eq_bool_str (fin_bl I q (by simp))
    | _ => exact absurd (show false = true from hs) Bool.false_ne_true
  | int i =>
    obtain ⟨t, rfl⟩ := rx
    cases y with
    | non => cases ry; exact PySem.EqNone.eq_int_none (fin_bl I q (by simp))
    | int j => obtain ⟨t', rfl⟩ := ry; exact eq_int (fin_bl I q dec_int)
    | str j => obtain ⟨t', rfl⟩ := ry; exact PySem.EqMixed.eq_int_str (fin_bl I q (by simp))
    | _ => exact absurd (show false = true from hs) Bool.false_ne_true
  | str i =>
    obtain ⟨t, rfl⟩ := rx
    cases y with
    | non => cases ry; exact PySem.EqNone.eq_str_none (fin_bl I q (by simp))
    | bl j => cases ry; exact PySem.EqMixed.eq_str_bool (fin_bl I q (by simp))
    | int j => obtain ⟨t', rfl⟩ := ry; exact PySem.EqMixed.eq_str_int (fin_bl I q (by simp))
    | str j => obtain ⟨t', rfl⟩ := ry; exact eq_str (fin_bl I q dec_str)
    | _ => exact absurd (show false = true from hs) Bool.false_ne_true
  | byt i =>
    obtain ⟨t, rfl⟩ := rx
    cases y with
    | byt j => obtain ⟨t', rfl⟩ := ry; exact PySem.W.eq_bytes (fin_bl I q dec_byt)
    | _ => exact absurd (show false = true from hs) Bool.false_ne_true
  | _ => cases y <;> exact absurd (show false = true from hs) Bool.false_ne_true
theorem op_ne : OpR X (compareOp .NotEq) rNe := by
  intro pins s σ H x y v u Q I rx ry h
  obtain ⟨hs, q⟩ := h
  cases x with
  | non =>
    cases rx
    cases y with
    | non => cases ry; exact PySem.EqNone.ne_none_none (fin_bl I q (by simp))
    | bl j => cases ry; exact PySem.EqNone.ne_none_bool (fin_bl I q (by simp))
    | int j => obtain ⟨t', rfl⟩ := ry; exact PySem.EqNone.ne_none_int (fin_bl I q (by simp))
    | str j => obtain ⟨t', rfl⟩ := ry; exact PySem.EqNone.ne_none_str (fin_bl I q (by simp))
    | _ => exact absurd (show false = true from hs) Bool.false_ne_true
  | bl i =>
    cases rx
    cases y with
    | non => cases ry; exact PySem.EqNone.ne_bool_none (fin_bl I q (by simp))
    | bl j => cases ry; exact ne_bool (fin_bl I q (congrArg not dec_bl))
    | str j => obtain ⟨t', rfl⟩ := ry; exact PySem.EqMixed.ne_bool_str (fin_bl I q (by simp))
    | _ => exact absurd (show false = true from hs) Bool.false_ne_true
  | int i =>
    obtain ⟨t, rfl⟩ := rx
    cases y with
    | non => cases ry; exact PySem.EqNone.ne_int_none (fin_bl I q (by simp))
    | int j => obtain ⟨t', rfl⟩ := ry; exact ne_int (fin_bl I q (congrArg not dec_int))
    | str j => obtain ⟨t', rfl⟩ := ry; exact PySem.EqMixed.ne_int_str (fin_bl I q (by simp))
    | _ => exact absurd (show false = true from hs) Bool.false_ne_true
  | str i =>
    obtain ⟨t, rfl⟩ := rx
    cases y with
    | non => cases ry; exact PySem.EqNone.ne_str_none (fin_bl I q (by simp))
    | bl j => cases ry; exact PySem.EqMixed.ne_str_bool (fin_bl I q (by simp))
    | int j => obtain ⟨t', rfl⟩ := ry; exact PySem.EqMixed.ne_str_int (fin_bl I q (by simp))
    | str j => obtain ⟨t', rfl⟩ := ry; exact ne_str (fin_bl I q (congrArg not dec_str))
    | _ => exact absurd (show false = true from hs) Bool.false_ne_true
  | byt i =>
    obtain ⟨t, rfl⟩ := rx
    cases y with
    | byt j => obtain ⟨t', rfl⟩ := ry; exact PySem.W.ne_bytes (fin_bl I q (congrArg not dec_byt))
    | _ => exact absurd (show false = true from hs) Bool.false_ne_true
  | _ => cases y <;> exact absurd (show false = true from hs) Bool.false_ne_true

theorem op_lt : OpR X (compareOp .Lt) (rI0 fun i j => .bl (decide (i < j))) := opB0 fun _ _ _ _ _ _ _ q => lt_int q
theorem op_le : OpR X (compareOp .LtE) (rI0 fun i j => .bl (decide (i ≤ j))) := opB0 fun _ _ _ _ _ _ _ q => le_int q
theorem op_gt : OpR X (compareOp .Gt) (rI0 fun i j => .bl (decide (j < i))) := opB0 fun _ _ _ _ _ _ _ q => gt_int q
/-- is, is not of two objects that are tracked lists or instances -/
def isObj : HO → Bool
  | .lst _ => true
  | .ins _ _ _ => true
  | _ => false
theorem nomark (b : Expr) {op : CmpOp} (h : op ≠ .In := by decide) (h2 : op ≠ .NotIn := by decide) : behindInMarks op b = false := by
  have e1 : (op == CmpOp.In) = false := by cases op <;> first | rfl | exact absurd rfl h
  have e2 : (op == CmpOp.NotIn) = false := by cases op <;> first | rfl | exact absurd rfl h2
  cases b <;> simp [behindInMarks, e1, e2]
/-- a comparison as a value; hm: nomark b, or (for in, not in) by with_unfolding_all rfl -/
theorem pe_cmpR {op : CmpOp} {r : R2} (ho : OpR X (compareOp op) r) (ha : PE X a ta) (hb : PE X b tb) (hm : behindInMarks op b = false) : PE X (.Compare a [op] [b] pos) (tOp r ta tb) := by
  intro pins s σ H Q I h
  exact wpAny_Compare1 (binT ha hb I h fun v u s2 x y H2 I2 rx ry q => ho pins s2 σ H2 x y v u Q I2 rx ry q) hm
/-- a reading of a value as a test -/
def tTest (t : TE) : TT := fun σ H Q => t σ H fun x H' => ∃ k, x = .bl k ∧ Q k H'
theorem pt_cmpR {op : CmpOp} {r : R2} (ho : OpR X (compareOp op) r) (ha : PE X a ta) (hb : PE X b tb) (hm : behindInMarks op b = false) : PT X (.Compare a [op] [b] pos) (tTest (tOp r ta tb)) := by
  intro pins s σ H Q I h
  refine wpAny_isTrue_Compare1 (thn (ha pins s σ H _ I h) fun v s1 ⟨x, H1, I1, r1, q1⟩ => thn (hb pins s1 σ H1 _ I1 q1) fun u s2 ⟨y, H2, I2, r2, q2⟩ =>
    thn (ho pins s2 σ H2 x y v u _ I2 r1 r2 q2) fun c s3 ⟨z, H3, I3, r3, k, e, q3⟩ => ?_) hm
  subst e
  cases r3
  exact wpAny_truthy_bool ⟨H3, I3, q3⟩
/-- a op1 b op2 c -/
def tChain (r r' : R2) (ta tb tc : TE) : TE := fun σ H Q => ta σ H fun x H1 => tb σ H1 fun y H2 => r x y H2 fun z H3 => ∃ k, z = .bl k ∧
  (if k = true then tc σ H3 fun w' H4 => r' y w' H4 Q else Q (.bl false) H3)
theorem pe_chain {op op' : CmpOp} {r r' : R2} (ho : OpR X (compareOp op) r) (ho' : OpR X (compareOp op') r') (ha : PE X a ta) (hb : PE X b tb) (hc : PE X c tc)
    (hm : lastMarks [op, op'] [b, c] = false := by with_unfolding_all rfl) : PE X (.Compare a [op, op'] [b, c] pos) (tChain r r' ta tb tc) := by
  intro pins s σ H Q I h
  refine Compare_chain (thn (ha pins s σ H _ I h) fun v s1 ⟨x, H1, I1, r1, q1⟩ => chain_link (thn (hb pins s1 σ H1 _ I1 q1) fun u s2 ⟨y, H2, I2, r2, q2⟩ =>
    thn (ho pins s2 σ H2 x y v u _ I2 r1 r2 q2) fun d s3 ⟨z, H3, I3, r3, k, e, q3⟩ => ?_)) hm
  subst e
  cases r3
  refine wpAny_truthy_bool ?_
  cases k with
  | false => exact ite_ff ⟨.bl false, H3, I3, rfl, q3⟩
  | true => exact ite_tt (chain_last (thn (hc pins s3 σ H3 _ I3 q3) fun w' s4 ⟨z', H4, I4, r4, q4⟩ => ho' pins s4 σ H4 y z' u w' Q I4 r2 r4 q4))
theorem pt_chain {op op' : CmpOp} {r r' : R2} (ho : OpR X (compareOp op) r) (ho' : OpR X (compareOp op') r') (ha : PE X a ta) (hb : PE X b tb) (hc : PE X c tc)
    (hm : lastMarks [op, op'] [b, c] = false := by with_unfolding_all rfl) : PT X (.Compare a [op, op'] [b, c] pos) (tTest (tChain r r' ta tb tc)) := by
  intro pins s σ H Q I h
  refine isTrue_chain (thn (ha pins s σ H _ I h) fun v s1 ⟨x, H1, I1, r1, q1⟩ => test_link (thn (hb pins s1 σ H1 _ I1 q1) fun u s2 ⟨y, H2, I2, r2, q2⟩ =>
    thn (ho pins s2 σ H2 x y v u _ I2 r1 r2 q2) fun d s3 ⟨z, H3, I3, r3, k, e, q3⟩ => ?_)) hm
  subst e
  cases r3
  refine wpAny_truthy_bool ?_
  cases k with
  | false =>
    obtain ⟨k', e', q'⟩ := q3
    cases e'
    exact ite_ff ⟨H3, I3, q'⟩
  | true =>
    refine ite_tt (test_last (thn (hc pins s3 σ H3 _ I3 q3) fun w' s4 ⟨z', H4, I4, r4, q4⟩ => thn (ho' pins s4 σ H4 y z' u w' _ I4 r2 r4 q4) fun d' s5 ⟨z2, H5, I5, r5, k2, e2, q5⟩ => ?_))
    subst e2
    cases r5
    exact wpAny_truthy_bool ⟨H5, I5, q5⟩

/-! ### truth -/
/-- a value's truth by the abstract heap -/
def TruV (K : PySem.W.Frag) (x : V) (H : Hp) (k : Bool) : Prop :=
  match x with
  | .non => k = false
  | .bl b => k = b
  | .int i => k = (i != 0)
  | .str y => y.length ≤ sizeLine ∧ k = ((y.length : Int) != 0)
  | .byt y => y.size ≤ sizeLine ∧ k = ((y.size : Int) != 0)
  | .ref p => (∃ xs, SqL K H p xs ∧ k = !xs.isEmpty) ∨ (∃ xs, SqT K H p xs ∧ k = !xs.isEmpty) ∨ ∃ kvs, H p = some (.dK kvs) ∧ k = !kvs.isEmpty
  | _ => False
theorem isEmpty_kv {κ : Type} {kvs : List (κ × V)} {vs : List (κ × Value)} (r : KV kvs vs) : (!vs.isEmpty) = !kvs.isEmpty := by
  cases r <;> rfl
theorem isEmpty_of {xs : List V} {its : List Value} (r : Vals xs its) : (!its.toArray.isEmpty) = !xs.isEmpty := by
  cases r <;> simp
theorem line63 : (sizeLine : Nat) < 2 ^ 63 := by rw [sizeLine_eq]; decide
theorem tru_ok : TruR X (fun x H Q => ∃ k, TruV X.K x H k ∧ Q k H) := by
  intro pins s σ H x v Q I rx h
  obtain ⟨k, e, q⟩ := h
  have hl := line63
  have hs : sizeLine = 16777216 := sizeLine_eq
  cases x with
  | non =>
    cases rx
    have e' : k = false := e
    subst e'
    exact truthy_none ⟨H, I, q⟩
  | bl b =>
    cases rx
    have e' : k = b := e
    subst e'
    exact wpAny_truthy_bool ⟨H, I, q⟩
  | int i =>
    obtain ⟨t, rfl⟩ := rx
    have e' : k = (i != 0) := e
    subst e'
    exact PySem.P.truthy_int ⟨H, I, q⟩
  | str y =>
    obtain ⟨t, rfl⟩ := rx
    obtain ⟨hy, e'⟩ : y.length ≤ sizeLine ∧ k = ((y.length : Int) != 0) := e
    subst e'
    exact PySem.P.truthy_str (by omega) ⟨H, I.tok _, q⟩
  | byt y =>
    obtain ⟨t, rfl⟩ := rx
    obtain ⟨hy, e'⟩ : y.size ≤ sizeLine ∧ k = ((y.size : Int) != 0) := e
    subst e'
    exact PySem.W.truthy_bytes (by omega) ⟨H, I.tok _, q⟩
  | ref p =>
    cases rx
    have e' : (∃ xs, SqL X.K H p xs ∧ k = !xs.isEmpty) ∨ (∃ xs, SqT X.K H p xs ∧ k = !xs.isEmpty) ∨ ∃ kvs, H p = some (.dK kvs) ∧ k = !kvs.isEmpty := e
    rcases e' with ⟨xs, hx, e'⟩ | ⟨xs, hx, e'⟩ | ⟨kvs, hx, e'⟩
    · subst e'
      obtain ⟨its, r, pl, hz⟩ := I.list hx
      have hlen := r.length
      exact wpAny_truthy_list pl.isList (by simp only [List.size_toArray]; omega) ⟨H, I.tok _, by rw [isEmpty_of r]; exact q⟩
    · subst e'
      obtain ⟨its, r, pl, hz⟩ := I.tuple hx
      have hlen := r.length
      exact truthy_tuple pl (by simp only [List.size_toArray]; omega) ⟨H, I.tok _, by rw [isEmpty_of r]; exact q⟩
    · subst e'
      obtain ⟨hz, hS, vs, r, m⟩ : kvs.length ≤ sizeLine ∧ (p == sysModules) = false ∧ ∃ vs, KV kvs vs ∧ s.heap.DictOf (mixKind X.prog X.w) p vs := I.hok p _ hx
      have hlen : kvs.length = vs.length := Paired.length r
      exact wpAny_truthy_dict hS m (by omega) ⟨H, I.tok _, by rw [isEmpty_kv r]; exact q⟩
  | _ => exact (show False from e).elim
/-- any expression whose test is its value's truth (a name, a call, a subscript, a field ..: he by fun _ => rfl) -/
theorem pt_truth (ha : PE X a ta) (he : ∀ whole, isTrue a X.env whole = (do let v ← whole; standAt a.pos; holding [v] (truthy v))) :
    PT X a (fun σ H Q => ta σ H fun x H' => ∃ k, TruV X.K x H' k ∧ Q k H') := by
  intro pins s σ H Q I h
  exact isTrue_plain (thn (ha pins s σ H _ I h) fun v s1 ⟨x, H1, I1, r1, q1⟩ => tru_ok pins s1 σ H1 x v Q I1 r1 q1) (he _)

/-! ### strs and bytes -/
theorem op_add_str : OpR X (binaryOp .Add) (fun x y H Q => ∃ i j, x = .str i ∧ y = .str j ∧ i.length + j.length ≤ sizeLine ∧ Q (.str (i ++ j)) H) := by
  intro pins s σ H x y v u Q I rx ry h
  obtain ⟨i, j, rfl, rfl, hz, q⟩ := h
  obtain ⟨t, rfl⟩ := rx
  obtain ⟨t', rfl⟩ := ry
  exact add_str (fun t' tk => ⟨.str (i ++ j), H, I.tok _, ⟨_, rfl⟩, q⟩) hz
def PlainIxT (b : Expr) : Prop := ∀ o i, subscripted b false o i = operate [o, i] (getItem o i)
/-! ### scalar builtins, by CallR -/
theorem vals1 {x : V} {us : List Value} (r : Vals [x] us) : ∃ u, us = [u] ∧ RelV x u := by
  cases r with
  | cons r1 r2 => cases r2; exact ⟨_, rfl, r1⟩
theorem vals2 {x y : V} {us : List Value} (r : Vals [x, y] us) : ∃ u w', us = [u, w'] ∧ RelV x u ∧ RelV y w' := by
  cases r with
  | cons r1 r2 =>
    cases r2 with
    | cons r3 r4 => cases r4; exact ⟨_, _, rfl, r1, r3⟩
theorem call_max2 (hc : X.calm = true) : CallR X (.builtin "max") (fun xs H Q => ∃ i j, xs = [.int i, .int j] ∧ Q (.int (if j > i then j else i)) H) := by
  intro pins s σ H xs us Q I r h
  obtain ⟨i, j, rfl, q⟩ := h
  obtain ⟨u, w', rfl, ⟨t, rfl⟩, ⟨t', rfl⟩⟩ := vals2 r
  refine max_two_ints (I.ok.hd hc) fun h' tk k => ⟨_, H, I.kept k, ?_, q⟩
  by_cases hj : j > i
  · rw [if_pos hj, if_pos hj]; exact ⟨_, rfl⟩
  · rw [if_neg hj, if_neg hj]; exact ⟨_, rfl⟩
theorem call_min2 (hc : X.calm = true) : CallR X (.builtin "min") (fun xs H Q => ∃ i j, xs = [.int i, .int j] ∧ Q (.int (if j < i then j else i)) H) := by
  intro pins s σ H xs us Q I r h
  obtain ⟨i, j, rfl, q⟩ := h
  obtain ⟨u, w', rfl, ⟨t, rfl⟩, ⟨t', rfl⟩⟩ := vals2 r
  refine min_two_ints (I.ok.hd hc) fun h' tk k => ⟨_, H, I.kept k, ?_, q⟩
  by_cases hj : j < i
  · rw [if_pos hj, if_pos hj]; exact ⟨_, rfl⟩
  · rw [if_neg hj, if_neg hj]; exact ⟨_, rfl⟩
theorem call_int1 : CallR X (.type "int") (fun xs H Q => (∃ i, xs = [.int i] ∧ Q (.int i) H) ∨ ∃ k, xs = [.bl k] ∧ Q (.int (if k then 1 else 0)) H) := by
  intro pins s σ H xs us Q I r h
  rcases h with ⟨i, rfl, q⟩ | ⟨k, rfl, q⟩
  · obtain ⟨u, rfl, t, rfl⟩ := vals1 r
    exact call_int_int ⟨.int i, H, I, ⟨_, rfl⟩, q⟩
  · obtain ⟨u, rfl, r1⟩ := vals1 r
    cases r1
    exact call_int_bool ⟨.int (if k then 1 else 0), H, I.tok _, ⟨_, rfl⟩, q⟩
/-- len of a str, a bytes, a list, a tuple -/
def LenV (K : PySem.W.Frag) (x : V) (H : Hp) (n : Nat) : Prop :=
  match x with
  | .str y => y.length ≤ sizeLine ∧ n = y.length
  | .byt y => y.size ≤ sizeLine ∧ n = y.size
  | .ref p => (∃ xs, SqL K H p xs ∧ n = xs.length) ∨ ∃ xs, SqT K H p xs ∧ n = xs.length
  | _ => False
end
end L2

namespace L2
open PySem PySem.Spec PyProof.Rows

/-! ### an instance, its attributes a map -/
structure ObjM (h : Heap) (x dx C : Addr) (mA : Str → Option Value) : Prop where
  obj : h.get? x = some (PySem.W.instObj C dx)
  ns : h.Ns1 dx mA
  ne : dx ≠ x

theorem lookIn_ns {h : Heap} {dx : Addr} {mA : Str → Option Value} (n : h.Ns1 dx mA) : ∃ od, h.get? dx = some od ∧ ∀ name, PySem.W.lookIn name od = some (mA name) := by
  obtain ⟨o, es, ep, ho, hd, hk, _, hm⟩ := n
  refine ⟨o, ho, fun name => ?_⟩
  have e := hm name
  unfold nsFind findBy at e
  rw [← Array.find?_toList] at e
  unfold PySem.W.lookIn
  rw [hd]
  dsimp only
  split
  · rename_i y q
    rw [q] at e
    exact congrArg some e
  · rename_i q
    rw [q] at e
    have a : es.toList.any (·.refKey) = false := by
      rw [List.any_eq_false]
      intro y hy
      obtain ⟨z, t, hkey⟩ := hk y (Array.mem_toList_iff.mp hy)
      simp [DictEntry.refKey, hkey]
    have a' : ¬ es.toList.any (·.refKey) = true := by rw [a]; exact Bool.false_ne_true
    rw [if_neg a']
    exact congrArg some e

theorem ObjM.look {h : Heap} {x dx C : Addr} {mA : Str → Option Value} (I : ObjM h x dx C mA) : ∃ od, PySem.W.InstAt h x (PySem.W.instObj C dx) C (some od) ∧ ∀ name, PySem.W.lookIn name od = some (mA name) :=
  let ⟨od, ho, hl⟩ := lookIn_ns I.ns
  ⟨od, ⟨I.obj, rfl, rfl, ho⟩, hl⟩

section
variable {prog : Program} {w : World} {A : Around} {E : Value → Shared → Prop} {s : Shared} {K : PySem.W.Frag} {x dx C f : Addr} {mA : Str → Option Value} {name : Str} {v : Value}

theorem get_map {expr : Bool} {Q : Value → Shared → Prop} (X : K.In s.heap) (I : ObjM s.heap x dx C mA) (hg : PySem.W.plainGet K C name = true) (hh : PySem.W.hasDictIn K C = true)
    (ha : PySem.W.findIn K (.ref C) name = some none) (hv : mA name = some v) (hv' : PySem.W.handedIn v = true) (h : Q v { s with toks := s.toks + 1 }) :
    wpAny (model prog w) A (getAttr (.ref x) name expr) Q E s := by
  obtain ⟨od, J, hl⟩ := I.look
  exact PySem.W.get_value X J (PySem.W.plainGet_of hg).1 (PySem.W.findObj_own hh ha rfl (by rw [hl, hv])) hv' h

theorem get_meth {pl : Sem Bool} {Q : Value × List Value → Shared → Prop} (X : K.In s.heap) (I : ObjM s.heap x dx C mA) (hg : PySem.W.plainGet K C name = true)
    (hf : PySem.W.findIn K (.ref C) name = some (some (.ref f))) (ht : PySem.W.isFn K (.ref f) = true) (hv : mA name = none) (h : Q (.ref f, [.ref x]) s) :
    wpAny (model prog w) A (getMethod (.ref x) name pl) Q E s := by
  obtain ⟨od, J, hl⟩ := I.look
  exact PySem.W.method_fn X J (PySem.W.plainGet_of hg).1 (PySem.W.plainGet_of hg).2 hf (beq_iff_eq.mp ht) (by show (PySem.W.lookIn name od).map (·.isSome) = some false; rw [hl, hv]; rfl) h

theorem set_map {ns : List Str} {Q : Unit → Shared → Prop} (X : K.In s.heap) (I : ObjM s.heap x dx C mA)
    (hs : PySem.W.findIn K (.ref C) "__setattr__" = some (some (.builtin "object.__setattr__"))) (hp : PySem.W.plainOver K C = true) (ht : PySem.W.takerIn K C name = some none) (hh : PySem.W.hasDictIn K C = true)
    (hw : PySem.Within mA ns) (hsz : ns.length ≤ sizeLine)
    (h : ∀ h', ObjM h' x dx C (fun y => if y = name then some v else mA y) → Heap.SameBut dx s.heap h' → Q () { s with heap := h', toks := s.toks + 2 }) :
    wpAny (model prog w) A (setAttr (.ref x) name v) Q E s := by
  obtain ⟨od, J, hl⟩ := I.look
  refine PySem.W.set_plain X J hs (PySem.W.osa_open (s := { s with toks := s.toks + 1 }) (r := none) X J hp ht fun b => ?_)
  obtain ⟨cd, hc, hd'⟩ := PySem.W.any_some hh
  have hx : s.heap.get? x = some ⟨.ref C, some dx, .plain, #[]⟩ := I.obj
  refine wpAny_bind (wpAny_pure (wpAny_bind (wpAny_bind (wpAny_loadPart hx (wpAny_bind (PySem.W.Looks.here (s := { s with toks := s.toks + 1 }) (PySem.W.looks_clsIn X hc) ?_))))))
  rw [hd']
  refine wpAny_pure (a := some dx) (wpAny_bind (wpAny_pure (wpAny_bind ?_)))
  refine wpAny_nsSet1 (s := { s with toks := s.toks + 1 }) I.ns fun h' hn2 hs2 => ?_
  obtain ⟨oD, esD, epD, hoD, hdD, hcD⟩ := hn2.count (PySem.Within.cons name v hw)
  refine wpAny_bind (wpAny_lookBehind hoD (by rw [hdD]; exact pastItsLine_dict (Nat.le_trans hcD (by rw [List.length_cons]; omega))) ?_)
  exact wpAny_pure (h _ ⟨(hs2.2 _ (Ne.symm I.ne)).trans I.obj, hn2, I.ne⟩ hs2)

/-- C(..): the dict at the heap's end, the instance behind it; then its __init__ -/
theorem make_map {R : Result → Shared → Prop} {vs : List Value} {kw : List (Str × Value)} (X : K.In s.heap) (hm : PySem.W.makesIn K C = true)
    (hi : PySem.W.findIn K (.ref C) "__init__" = some (some (.ref f))) (hf : PySem.W.typeIn K (.ref f) = some (.type "function"))
    (h : codeAny (model prog w) (A.under (.builtin "type.__call__" ⟨.ref C :: vs, kw⟩)) (.call (.ref f) ⟨.ref (s.heap.objs.size + 1) :: vs, kw⟩) (PySem.W.InitBack (s.heap.objs.size + 1) R)
      { s with heap := (s.heap.push PySem.W.emptyDict).push (PySem.W.instObj C s.heap.objs.size) }) :
    codeAny (model prog w) A (.call (.ref C) ⟨vs, kw⟩) R s := by
  obtain ⟨hh, g, d, t, os⟩ := s
  exact PySem.W.make_core (PySem.W.makes_of X hm) (PySem.W.looks_findIn X hi) (fun self => PySem.W.bind_fn X self hf) (.inl rfl) h
end

/-! ### the attributes as a list of pairs -/
def putF (f : Str) (v : V) : List (Str × V) → List (Str × V)
  | [] => [(f, v)]
  | (g, x) :: r => if g = f then (g, v) :: r else (g, x) :: putF f v r
theorem lookup_putF (f g : Str) (v : V) : ∀ fs : List (Str × V), (putF f v fs).lookup g = if g = f then some v else fs.lookup g
  | [] => by
    show List.lookup g [(f, v)] = _
    by_cases h : g = f
    · have hb : (g == f) = true := beq_iff_eq.mpr h
      simp only [List.lookup, hb, if_pos h]
    · have hb : (g == f) = false := beq_eq_false_iff_ne.mpr h
      simp only [List.lookup, hb, if_neg h]
  | (k, x) :: r => by
    have ih := lookup_putF f g v r
    rw [show putF f v ((k, x) :: r) = (if k = f then (k, v) :: r else (k, x) :: putF f v r) from rfl]
    by_cases hk : k = f
    · rw [if_pos hk]
      by_cases h : g = k
      · have hb : (g == k) = true := beq_iff_eq.mpr h
        simp only [List.lookup, hb, if_pos (h.trans hk)]
      · have hb : (g == k) = false := beq_eq_false_iff_ne.mpr h
        simp only [List.lookup, hb, if_neg (fun e : g = f => h (e.trans hk.symm))]
    · rw [if_neg hk]
      by_cases h : g = k
      · have hb : (g == k) = true := beq_iff_eq.mpr h
        simp only [List.lookup, hb, if_neg (fun e : g = f => hk (h.symm.trans e))]
      · have hb : (g == k) = false := beq_eq_false_iff_ne.mpr h
        simp only [List.lookup, hb]
        exact ih
theorem keys_putF (f : Str) (v : V) : ∀ fs : List (Str × V), f ∈ (putF f v fs).map (·.1) ∧ ∀ g, g ∈ fs.map (·.1) → g ∈ (putF f v fs).map (·.1)
  | [] => ⟨by simp [putF], fun g h => by simp at h⟩
  | (k, x) :: r => by
    obtain ⟨i1, i2⟩ := keys_putF f v r
    rw [show putF f v ((k, x) :: r) = (if k = f then (k, v) :: r else (k, x) :: putF f v r) from rfl]
    by_cases hk : k = f
    · rw [if_pos hk]
      subst hk
      exact ⟨by simp, fun g h => by simpa using h⟩
    · rw [if_neg hk]
      refine ⟨?_, fun g h => ?_⟩
      · rw [List.map_cons]
        exact List.mem_cons_of_mem _ i1
      · rw [List.map_cons] at h ⊢
        rcases List.mem_cons.mp h with e | e
        · exact List.mem_cons.mpr (.inl e)
        · exact List.mem_cons_of_mem _ (i2 g e)
theorem length_putF (f : Str) (v : V) : ∀ fs : List (Str × V), (putF f v fs).length ≤ fs.length + 1
  | [] => by simp [putF]
  | (k, x) :: r => by
    have ih := length_putF f v r
    rw [show putF f v ((k, x) :: r) = (if k = f then (k, v) :: r else (k, x) :: putF f v r) from rfl]
    by_cases hk : k = f
    · rw [if_pos hk, List.length_cons, List.length_cons]; omega
    · rw [if_neg hk, List.length_cons, List.length_cons]; omega

theorem RelO.some_of {v : V} {o : Option Value} (r : RelO (some v) o) : ∃ u, o = some u ∧ RelV v u := by
  cases o with
  | none => exact (show False from r).elim
  | some u => exact ⟨u, rfl, r⟩
theorem RelO.none_of {o : Option Value} (r : RelO none o) : o = none := by
  cases o with
  | none => rfl
  | some u => exact (show False from r).elim
theorem handed_of {v : V} {u : Value} (r : RelV v u) : PySem.W.handedIn u = true := by
  cases v with
  | non => cases (show u = Value.none from r); rfl
  | bl b => cases (show u = Value.bool b from r); rfl
  | int i => obtain ⟨t, e⟩ := (show ∃ t, u = Value.int i t from r); cases e; rfl
  | str x => obtain ⟨t, e⟩ := (show ∃ t, u = Value.str x t from r); cases e; rfl
  | byt b => obtain ⟨t, e⟩ := (show ∃ t, u = Value.bytes b t from r); cases e; rfl
  | flt b => obtain ⟨t, e⟩ := (show ∃ t, u = Value.float b t from r); cases e; rfl
  | ref a => cases (show u = Value.ref a from r); rfl
  | ty n => cases (show u = Value.type n from r); rfl

section
variable {P : Program} {w : World} {H H' : Hp} {h h' : Heap} {a C dx : Addr} {fs fs' : List (Str × V)}
theorem ins_get (hok : HOk P w H h) (e : H a = some (.ins C dx fs)) : ∃ mA, ObjM h a dx C mA ∧ (∀ f, RelO (fs.lookup f) (mA f)) ∧ PySem.Within mA (fs.map (·.1)) ∧ fs.length ≤ 1000 ∧ H dx = some (.own a) := by
  obtain ⟨d, z, ne, ob, mA, n, r, q⟩ := (show ObjOk P w H h a (.ins C dx fs) from hok a _ e)
  exact ⟨mA, ⟨ob, n, ne⟩, r, q, z, d⟩
end

/-! ### what of the text a class must have -/
structure Cls (K : PySem.W.Frag) (C : Addr) : Prop where
  pg : PySem.W.plainGet K C Str.empty = true
  hd : PySem.W.hasDictIn K C = true
  po : PySem.W.plainOver K C = true
  sa : PySem.W.findIn K (.ref C) "__setattr__" = some (some (.builtin "object.__setattr__"))
theorem Cls.get {K : PySem.W.Frag} {C : Addr} (c : Cls K C) (f : Str) : PySem.W.plainGet K C f = true := c.pg
/-- no class of it has the name -/
def NoAttr (K : PySem.W.Frag) (C : Addr) (f : Str) : Prop := PySem.W.findIn K (.ref C) f = some none
theorem NoAttr.taker {K : PySem.W.Frag} {C : Addr} {f : Str} (n : NoAttr K C f) : PySem.W.takerIn K C f = some none := by
  unfold PySem.W.takerIn
  rw [show PySem.W.findIn K (.ref C) f = some none from n]
  rfl
/-- a constant of the class -/
structure Con (K : PySem.W.Frag) (C : Addr) (f : Str) (v : V) (u : Value) : Prop where
  at_ : PySem.W.findIn K (.ref C) f = some (some u)
  rel : RelV v u
  get : PySem.W.specialIn K u "__get__" = some none
  cp : PySem.W.copiedNames.contains f = false
/-- a method: a plain def of the class or of one above it -/
structure Meth (K : PySem.W.Frag) (C : Addr) (m : Str) (f : Addr) : Prop where
  at_ : PySem.W.findIn K (.ref C) m = some (some (.ref f))
  fn : PySem.W.isFn K (.ref f) = true
  kp : PySem.W.keepIn K (.ref f) = true

section
variable {X : Cx} {pins : List (Addr × Obj)} {σ : St} {H : Hp} {s : Shared} {a C dx : Addr} {fs : List (Str × V)} {f : Str} {v : V} {A : Around} {E : Value → Shared → Prop}

theorem getattr_ok {b : Bool} {Q : Value → Shared → Prop} (I : Inv X pins σ H s) (e : H a = some (.ins C dx fs)) (c : Cls X.K C) (n : NoAttr X.K C f) (l : fs.lookup f = some v)
    (h : ∀ u s', Inv X pins σ H s' → RelV v u → Q u s') : wpAny (model X.prog X.w) A (getAttr (.ref a) f b) Q E s := by
  obtain ⟨mA, O, r, _, _, _⟩ := ins_get I.hok e
  obtain ⟨u, hu, ru⟩ := RelO.some_of (v := v) (o := mA f) (by rw [← l]; exact r f)
  exact get_map I.kIn O (c.get f) c.hd n hu (handed_of ru) (h u _ (I.tok _) ru)

theorem getmeth_ok {m : Str} {g : Addr} {pl : Sem Bool} {Q : Value × List Value → Shared → Prop} (I : Inv X pins σ H s) (e : H a = some (.ins C dx fs)) (c : Cls X.K C) (k : Meth X.K C m g) (l : fs.lookup m = none)
    (h : Q (.ref g, [.ref a]) s) : wpAny (model X.prog X.w) A (getMethod (.ref a) m pl) Q E s := by
  obtain ⟨mA, O, r, _, _, _⟩ := ins_get I.hok e
  have hn : mA m = none := RelO.none_of (by rw [← l]; exact r m)
  exact get_meth I.kIn O (c.get m) k.at_ k.fn hn h

theorem setattr_ok {y : V} {u : Value} {Q : Unit → Shared → Prop} (I : Inv X pins σ H s) (e : H a = some (.ins C dx fs)) (c : Cls X.K C) (n : NoAttr X.K C f) (hl : fs.length < 1000) (ry : RelV y u)
    (h : ∀ s', Inv X pins σ (upd H a (.ins C dx (putF f y fs))) s' → Q () s') : wpAny (model X.prog X.w) A (setAttr (.ref a) f u) Q E s := by
  obtain ⟨mA, O, r, wi, _, ho⟩ := ins_get I.hok e
  have hz : (fs.map (·.1)).length ≤ sizeLine := by rw [List.length_map, sizeLine_eq]; omega
  refine set_map I.kIn O c.sa c.po n.taker c.hd wi hz fun h' O' sb => h _ ?_
  have hd : ∃ o, h'.get? dx = some o := let ⟨o, _, _, e', _⟩ := O'.ns; ⟨o, e'⟩
  refine I.write (x := a) (e := dx) (by rw [e]; exact True.intro) (.inr ho) (fun b q hb z => (sb.2 b hb).trans z) hd ?_
  refine ⟨by rw [upd_ne O.ne]; exact ho, ?_, O.ne, O'.obj, _, O'.ns, fun g => ?_, fun g hg => ?_⟩
  · have := length_putF f y fs; omega
  · show RelO ((putF f y fs).lookup g) (if g = f then some u else mA g)
    rw [lookup_putF]
    by_cases q : g = f
    · rw [if_pos q, if_pos q]; exact ry
    · rw [if_neg q, if_neg q]; exact r g
  · by_cases q : g = f
    · rw [q]; exact (keys_putF f y fs).1
    · refine (keys_putF f y fs).2 g (wi g fun z => hg ?_)
      show (if g = f then some u else mA g) = none
      rw [if_neg q]; exact z

/-- a new instance, tracked, without attributes -/
theorem Inv.made (I : Inv X pins σ H s) : Inv X pins σ (upd (upd H s.heap.objs.size (.own (s.heap.objs.size + 1))) (s.heap.objs.size + 1) (.ins C s.heap.objs.size []))
    { s with heap := (s.heap.push PySem.W.emptyDict).push (PySem.W.instObj C s.heap.objs.size) } := by
  have e1 : (s.heap.push PySem.W.emptyDict).get? s.heap.objs.size = some PySem.W.emptyDict := Heap.get?_push_size s.heap rfl
  have e2 : ((s.heap.push PySem.W.emptyDict).push (PySem.W.instObj C s.heap.objs.size)).get? (s.heap.objs.size + 1) = some (PySem.W.instObj C s.heap.objs.size) := by
    have := Heap.get?_push_size (s.heap.push PySem.W.emptyDict) (o := PySem.W.instObj C s.heap.objs.size) rfl
    rwa [Heap.size_push] at this
  have e3 : (s.heap.push PySem.W.emptyDict).Ns s.heap.objs.size (fun _ => none) := ⟨PySem.W.emptyDict, #[], _, e1, rfl, (fun e he => absurd he (by simp)), fun _ => rfl⟩
  have I1 := I.laid (a := s.heap.objs.size) (o := .own (s.heap.objs.size + 1)) (h' := s.heap.push PySem.W.emptyDict) (t' := s.toks) (fun b u q => Heap.get?_push_of_some _ q) (Nat.le_refl _) ⟨_, e1⟩
  refine I1.laid (a := s.heap.objs.size + 1) (o := .ins C s.heap.objs.size []) (t' := s.toks) (fun b u q => Heap.get?_push_of_some _ q) (Nat.le_of_eq (Heap.size_push _ _)) ?_
  have ne : s.heap.objs.size ≠ s.heap.objs.size + 1 := Nat.ne_of_lt (Nat.lt_succ_self _)
  refine ⟨by rw [upd_ne ne, upd_same], Nat.zero_le _, ne, e2, fun _ => none, (Heap.Ns1.of_empty e3).at fun o q => Heap.get?_push_of_some _ q, fun _ => True.intro, fun y hy => absurd rfl hy⟩

/-- e.f where nothing but the object is asked: through attributeBase (super) and the last hold -/
theorem attr_of {prog : Program} {w : World} {env : Env} {e : Expr} {f : Str} {pos : Pos} {s : Shared} {Q : Value → Shared → Prop} (hb : attributeBase e f env (eval e env) = eval e env)
    (h : wpAny (model prog w) A (eval e env) (fun o s₁ => wpAny (model prog w) A (getAttr o f true) Q E s₁) E s) : wpAny (model prog w) A (eval (.Attribute e f pos) env) Q E s :=
  Attribute_any_ h (by rw [arm_eval_Attribute, hb])
end

/-! ### readings and rules -/
/-- e.f, an attribute of the instance -/
def tFld (K : PySem.W.Frag) (ta : TE) (f : Str) : TE := fun σ H Q => ta σ H fun x H1 => ∃ a C dx fs v, x = .ref a ∧ H1 a = some (.ins C dx fs) ∧ Cls K C ∧ NoAttr K C f ∧ fs.lookup f = some v ∧ Q v H1
/-- e.f, a constant of the class -/
def tCon (K : PySem.W.Frag) (ta : TE) (f : Str) : TE := fun σ H Q => ta σ H fun x H1 => ∃ a C dx fs v u, x = .ref a ∧ H1 a = some (.ins C dx fs) ∧ Cls K C ∧ Con K C f v u ∧ fs.lookup f = none ∧ Q v H1
/-- e.f = value -/
def sFld (K : PySem.W.Frag) (ta tv : TE) (f : Str) : TS := fun D σ H => tv σ H fun y H1 => ta σ H1 fun x H2 => ∃ a C dx fs, x = .ref a ∧ H2 a = some (.ins C dx fs) ∧ Cls K C ∧ NoAttr K C f ∧ fs.length < 1000 ∧
  D.nx σ (upd H2 a (.ins C dx (putF f y fs)))
/-- an augmented operator on two values -/
def InOp (X : Cx) (op : Operator) (rd : V → V → Hp → VK → Prop) : Prop :=
  ∀ (pins : List (Addr × Obj)) (s : Shared) (σ : St) (H : Hp) (x y : V) (u v : Value) (Q : VK), Inv X pins σ H s → RelV x u → RelV y v → rd x y H Q → wpAny (model X.prog X.w) X.A (inplaceOp op u v) (EP X pins σ Q) X.xe s
/-- e.f op= value -/
def sFldAug (K : PySem.W.Frag) (ta tv : TE) (rd : V → V → Hp → VK → Prop) (f : Str) : TS := fun D σ H => ta σ H fun x H1 => ∃ a C dx fs v, x = .ref a ∧ H1 a = some (.ins C dx fs) ∧ Cls K C ∧ NoAttr K C f ∧ fs.lookup f = some v ∧
  tv σ H1 fun y H2 => rd v y H2 fun z H3 => ∃ dx' fs', H3 a = some (.ins C dx' fs') ∧ fs'.length < 1000 ∧ D.nx σ (upd H3 a (.ins C dx' (putF f z fs')))

section
variable {X : Cx} {o e value : Expr} {f : Str} {pos pos' tpos : Pos} {ta tv : TE}
theorem pe_fld (he : PE X e ta) (hb : attributeBase e f X.env (eval e X.env) = eval e X.env) : PE X (.Attribute e f pos) (tFld X.K ta f) := by
  intro pins s σ H Q I h
  refine attr_of hb (thn (he pins s σ H _ I h) fun u s1 ⟨x, H1, I1, rx, a, C, dx, fs, v, ex, ea, c, n, l, q⟩ => ?_)
  subst ex
  obtain rfl : u = Value.ref a := rx
  exact getattr_ok I1 ea c n l fun u' s2 I2 ru => ⟨v, H1, I2, ru, q⟩
theorem ps_fld (ha : PE X o ta) (hv : PE X value tv) (hs : swapsWith value (some (.Attribute o f pos')) pos.line X.env = pure false) : PS X (.Assign [.Attribute o f pos'] value pos) (sFld X.K ta tv f) := by
  intro pins s σ H D I h
  refine plainObj_wpAny_Assign_Attribute (thn (hv pins s σ H _ I h) fun u s1 ⟨y, H1, I1, ry, q⟩ => thn (ha pins s1 σ H1 _ I1 q) fun ov s2 ⟨x, H2, I2, rx, a, C, dx, fs, ex, ea, c, n, l, q2⟩ => ?_) hs
  subst ex
  obtain rfl : ov = Value.ref a := rx
  exact setattr_ok I2 ea c n l ry fun s3 I3 => ⟨σ, _, I3, q2⟩
def rAdd : V → V → Hp → VK → Prop := fun x y H Q => ∃ i j, x = .int i ∧ y = .int j ∧ Q (.int (i + j)) H
def rSub : V → V → Hp → VK → Prop := fun x y H Q => ∃ i j, x = .int i ∧ y = .int j ∧ Q (.int (i - j)) H
end

/-! ### isinstance -/
section
variable {X : Cx} {pins : List (Addr × Obj)} {σ : St} {H : Hp} {s : Shared} {A : Around} {E : Value → Shared → Prop} {Q : Value → Shared → Prop} {c : Value} {b : Bool}
/-- the type of a value, as the fragment's deciders take it; for an instance its class -/
inductive TyOf (K : PySem.W.Frag) (H : Hp) : V → Value → Prop where
  | non : TyOf K H .non (.type "NoneType")
  | bl (x : Bool) : TyOf K H (.bl x) (.type "bool")
  | int (i : Int) : TyOf K H (.int i) (.type "int")
  | str (x : Str) : TyOf K H (.str x) (.type "str")
  | flt (x : UInt64) : TyOf K H (.flt x) (.type "float")
  | lst {a : Addr} {xs : List V} (e : H a = some (.lst xs)) : TyOf K H (.ref a) (.type "list")
  | frz {a : Addr} {o : Obj} {xs : List V} (e : H a = some (.frz o (.lst xs))) : TyOf K H (.ref a) (.type "list")
  | tup {a : Addr} {xs : List V} (e : H a = some (.tup xs)) : TyOf K H (.ref a) (.type "tuple")
  | dK {a : Addr} {kvs : List (Key × V)} (e : H a = some (.dK kvs)) : TyOf K H (.ref a) (.type "dict")
  | dT {a : Addr} {kvs : List (List Key × V)} (e : H a = some (.dT kvs)) : TyOf K H (.ref a) (.type "dict")
  | ins {a C dx : Addr} {fs : List (Str × V)} (e : H a = some (.ins C dx fs)) (cl : Cls K C) (ha : PySem.W.findIn K (.ref C) "__class__" = some (some (.builtin "object.__class__")))
      (hn : PySem.W.specialIn K (.builtin "object.__class__") "__get__" = some (some (.builtin "getset_descriptor.__get__"))) (htk : PySem.W.takesIn K (.builtin "object.__class__") = some true)
      (hm : PySem.W.mroIn K C (.type "object") = some true) : TyOf K H (.ref a) (.ref C)
/-- isinstance(x, c) for one class c, a built-in or an own one: kitOne's answer -/
theorem isinst_ok {x : V} {u t : Value} (I : Inv X pins σ H s) (rx : RelV x u) (ty : TyOf X.K H x t) (e : PySem.W.kitOne X.K t c = some b) (h : ∀ tk, Q (.bool b) { s with toks := tk }) :
    wpAny (model X.prog X.w) A (call (.builtin "isinstance") [u, c]) Q E s := by
  cases ty with
  | non => cases (show u = Value.none from rx); exact PySem.W.kia_one PySem.W.kitx_none I.kIn True.intro e (fun z => nomatch z) h
  | bl y => cases (show u = Value.bool y from rx); exact PySem.W.kia_one PySem.W.kitx_bool I.kIn True.intro e (fun z => nomatch z) h
  | int i => obtain ⟨t, q⟩ := (show ∃ t, u = Value.int i t from rx); cases q; exact PySem.W.kia_one PySem.W.kitx_int I.kIn True.intro e (fun z => nomatch z) h
  | str y => obtain ⟨t, q⟩ := (show ∃ t, u = Value.str y t from rx); cases q; exact PySem.W.kia_one PySem.W.kitx_str I.kIn True.intro e (fun z => nomatch z) h
  | flt y => obtain ⟨t, q⟩ := (show ∃ t, u = Value.float y t from rx); cases q; exact PySem.W.kia_one PySem.W.kitx_float I.kIn True.intro e (fun z => nomatch z) h
  | @lst a xs ea =>
    cases (show u = Value.ref a from rx)
    obtain ⟨_, _, n, _, h1⟩ := (show ObjOk X.prog X.w H s.heap a (.lst xs) from I.hok a _ ea)
    exact PySem.W.kia_one PySem.W.kitx_list I.kIn ⟨_, h1, rfl⟩ e (fun z => nomatch z) h
  | @frz a ob xs ea =>
    cases (show u = Value.ref a from rx)
    obtain ⟨_, _, _, n, _, h1⟩ := (show ObjOk X.prog X.w H s.heap a (.frz ob (.lst xs)) from I.hok a _ ea)
    exact PySem.W.kia_one PySem.W.kitx_list I.kIn ⟨_, h1, rfl⟩ e (fun z => nomatch z) h
  | @tup a xs ea =>
    cases (show u = Value.ref a from rx)
    obtain ⟨_, _, _, p⟩ := (show ObjOk X.prog X.w H s.heap a (.tup xs) from I.hok a _ ea)
    obtain ⟨o, h1, h2, _⟩ := p
    exact PySem.W.kia_one PySem.W.kitx_tuple I.kIn ⟨o, h1, h2⟩ e (fun z => nomatch z) h
  | @dK a kvs ea =>
    cases (show u = Value.ref a from rx)
    obtain ⟨_, _, vs, _, p⟩ := (show ObjOk X.prog X.w H s.heap a (.dK kvs) from I.hok a _ ea)
    obtain ⟨o, es, ep, h1, h2, _⟩ := p
    exact PySem.W.kia_one PySem.W.kitx_dict I.kIn ⟨o, h1, h2.1⟩ e (fun z => nomatch z) h
  | @dT a kvs ea =>
    cases (show u = Value.ref a from rx)
    obtain ⟨_, _, xs, _, o, es, ep, h1, h2, _⟩ := (show ObjOk X.prog X.w H s.heap a (.dT kvs) from I.hok a _ ea)
    exact PySem.W.kia_one PySem.W.kitx_dict I.kIn ⟨o, h1, h2.1⟩ e (fun z => nomatch z) h
  | @ins a C dx fs ea cl ha hn htk hm =>
    cases (show u = Value.ref a from rx)
    obtain ⟨mA, O, _⟩ := ins_get I.hok ea
    obtain ⟨od, J, _⟩ := O.look
    exact PySem.W.kia_one (PySem.W.kitx_own (cl.get _) cl.hd ha hn htk hm) I.kIn J e (fun z => nomatch z) h
end
end L2

namespace L2
open PySem PySem.Spec PyProof.Rows

/-! ### room -/
structure Room (k : Nat) (A : Around) : Prop where
  hd : A.handled = none
  dp : A.depth + 3 * k + 5 < recursionLimit
  un : A.units + 16 * k + 200 < cLine
theorem Room.mono {j k : Nat} {A : Around} (r : Room k A) (h : j ≤ k) : Room j A := ⟨r.hd, by have := r.dp; omega, by have := r.un; omega⟩
theorem Room.deeper {k : Nat} {A : Around} (r : Room (k + 1) A) (env : Env) : Room k (A.deeper env) :=
  ⟨r.hd, by have := r.dp; show A.depth + 1 + 3 * k + 5 < _; omega, by have := r.un; show A.units + 3 + 16 * k + 200 < _; omega⟩
theorem Room.in1 {k : Nat} {A : Around} (r : Room (k + 1) A) : Room k A.in1 :=
  ⟨r.hd, by have := r.dp; show A.depth + 3 * k + 5 < _; omega, by have := r.un; show A.units + 1 + 16 * k + 200 < _; omega⟩
theorem make_depth {A : Around} {C : Addr} {us : List Value} {kw : List (Str × Value)} : (A.under (.builtin "type.__call__" ⟨.ref C :: us, kw⟩)).depth = A.depth + 1 := by
  first | rfl | simp [Around.under, Code.weight, Code.isCreation, Code.isGuard, Code.isCaller, Code.frames, Code.isFrame, guardIds]
theorem make_units {A : Around} {C : Addr} {us : List Value} {kw : List (Str × Value)} : (A.under (.builtin "type.__call__" ⟨.ref C :: us, kw⟩)).units = A.units + 1 := by
  first | rfl | simp [Around.under, Code.cUnits, Code.frames, Code.isFrame]
theorem Room.make {k : Nat} {A : Around} (r : Room (k + 1) A) (C : Addr) (us : List Value) (kw : List (Str × Value)) : Room k (A.under (.builtin "type.__call__" ⟨.ref C :: us, kw⟩)) :=
  ⟨r.hd, by have := r.dp; rw [make_depth]; omega, by have := r.un; rw [make_units]; omega⟩
theorem Room.depth {k : Nat} {A : Around} (r : Room k A) : A.depth < recursionLimit := by have := r.dp; omega
theorem Room.units {k : Nat} {A : Around} (r : Room k A) : A.units + 64 < cLine := by have := r.un; omega
theorem Room.units0 {k : Nat} {A : Around} (r : Room k A) : A.units < cLine := by have := r.un; omega

/-! ### argument lists and displays -/
def tNil : TA := fun _ H Q => Q [] H
def tCons (ta : TE) (tr : TA) : TA := fun σ H Q => ta σ H fun x H1 => tr σ H1 fun xs H2 => Q (x :: xs) H2
section
variable {X : Cx} {e : Expr} {es : List Expr} {te : TE} {t : TA} {pos : Pos}
theorem pa_nil : PA X [] tNil := fun _ _ _ _ H Q I h => Calls.spliced_nil ⟨[], H, I, .nil, h⟩
theorem pa_cons (ha : PE X e te) (hr : PA X es t) (hs : starEach (e :: es) X.env = (false, eval e X.env) :: starEach es X.env := by rfl) : PA X (e :: es) (tCons te t) := by
  intro pos pins s σ H Q I h
  rw [hs]
  show wpAny _ _ (spliced ((false, eval e X.env) :: backTo pos (starEach es X.env))) _ _ s
  refine Calls.spliced_cons (thn (ha pins s σ H _ I h) fun u s1 ⟨x, H1, I1, r1, q1⟩ => ?_)
  exact thn (hr pos pins s1 σ H1 _ I1 q1) fun us s2 ⟨xs, H2, I2, r2, q2⟩ => ⟨x :: xs, H2, I2, .cons r1 r2, q2⟩

/-- a tuple, a list of written items -/
def tTup (t : TA) : TE := fun σ H Q => t σ H fun xs H1 => xs.length ≤ sizeLine ∧ ∀ p, H1 p = none → Q (.ref p) (upd H1 p (.tup xs))
def tLst (t : TA) : TE := fun σ H Q => t σ H fun xs H1 => xs.length ≤ sizeLine ∧ ∀ p, H1 p = none → Q (.ref p) (upd H1 p (.lst xs))
theorem pe_tup {x1} (h : PA X es t) : PE X (.Tuple es x1 pos) (tTup t) := by
  intro pins s σ H Q I hq
  refine wpAny_Tuple_spliced (thn (h pos pins s σ H _ I hq) fun us s1 ⟨xs, H1, I1, r, z, q⟩ => ⟨by rw [← r.length]; exact z, ?_⟩)
  have hf : H1 s1.heap.objs.size = none := I1.hok.fresh (Nat.le_refl _)
  refine ⟨.ref s1.heap.objs.size, upd H1 s1.heap.objs.size (.tup xs), I1.laid (t' := s1.toks) (fun b u e => Heap.get?_push_of_some _ e) (Nat.le_refl _) ?_, rfl, q _ hf⟩
  exact ⟨z, us, r, ⟨_, Heap.get?_push_size _ rfl, rfl, _, rfl⟩⟩
theorem pe_lst (h : PA X es t) : PE X (.List es pos) (tLst t) := by
  intro pins s σ H Q I hq
  refine wpAny_List_spliced (thn (h pos pins s σ H _ I hq) fun us s1 ⟨xs, H1, I1, r, z, q⟩ => ⟨by rw [← r.length]; exact z, ?_⟩)
  have hf : H1 s1.heap.objs.size = none := I1.hok.fresh (Nat.le_refl _)
  refine ⟨.ref s1.heap.objs.size, upd H1 s1.heap.objs.size (.lst xs), I1.laid (t' := s1.toks) (fun b u e => Heap.get?_push_of_some _ e) (Nat.le_refl _) ?_, rfl, q _ hf⟩
  exact ⟨z, us, 0, r, Heap.get?_push_size _ rfl⟩
end

/-! ### what a def promises -/
/-- a def's promise: the bound arguments in the parameters' order, the heap, the wanted end, the wanted exception -/
abbrev Sp := List V → Hp → VK → XK → Prop
/-- how an exception lies behind a call (file 08 gives it): the callers' frames, abstract heap and state ahead of the call, the wish, the exception, the state -/
abbrev CXT := List Env → Hp → Shared → XK → Value → Shared → Prop

/-- the state at a call -/
structure Env0 (P : Program) (w : World) (K : PySem.W.Frag) (mg : Str → Option Value) (base : Heap) (A : Around) (outer : List Env) (s : Shared) (H : Hp) : Prop where
  frames : A.frames = some outer
  mod : Mod K mg base
  bs : ∀ b o, base.get? b = some o → s.heap.get? b = some o ∧ H b = none
  bsz : base.objs.size ≤ s.heap.objs.size
  funs : s.heap.FunFrames base outer
  frf : ∀ b ∈ frs outer, H b = none
  hok : HOk P w H s.heap
  bare : AllBare s.gens
/-- a call's end -/
def CE (outer : List Env) (P : Program) (w : World) (H : Hp) (s : Shared) (Q : VK) (u : Value) (s' : Shared) : Prop :=
  ∃ v H', s'.os = s.os ∧ AllBare s'.gens ∧ Un (frs outer) [] H H' s.heap s'.heap ∧ HOk P w H' s'.heap ∧ RelV v u ∧ Q v H'
def CR (CX : CXT) (outer : List Env) (P : Program) (w : World) (H : Hp) (s : Shared) (Q : VK) (E : XK) (r : Result) (s' : Shared) : Prop :=
  match r with
  | .ok (.ret u) => CE outer P w H s Q u s'
  | .ok _ => False
  | .error e => CX outer H s E e s'
structure FnOk (P : Program) (w : World) (K : PySem.W.Frag) (mg : Str → Option Value) (base : Heap) (CX : CXT) (k : Nat) (f : Addr) (fd : FuncData) (ps : List Str) (sp : Sp) : Prop where
  len : ∀ vs H Q E, sp vs H Q E → vs.length = ps.length
  run : ∀ (A : Around) (outer : List Env) (s : Shared) (H : Hp) (args : Args) (us : List Value) (vs : List V) (Q : VK) (E : XK), Room k A → Env0 P w K mg base A outer s H → BindsTo s fd args (ps.zip us) → Vals vs us → sp vs H Q E →
    codeAny (model P w) A (.call (.ref f) args) (CR CX outer P w H s Q E) s
theorem FnOk.mono {P : Program} {w : World} {K : PySem.W.Frag} {mg : Str → Option Value} {base : Heap} {CX : CXT} {j k : Nat} {f : Addr} {fd : FuncData} {ps : List Str} {sp : Sp} (F : FnOk P w K mg base CX j f fd ps sp) (h : j ≤ k) :
    FnOk P w K mg base CX k f fd ps sp := ⟨F.len, fun A outer s H args us vs Q E hr => F.run A outer s H args us vs Q E (hr.mono h)⟩
/-- a weaker promise -/
theorem FnOk.imp {P : Program} {w : World} {K : PySem.W.Frag} {mg : Str → Option Value} {base : Heap} {CX : CXT} {k : Nat} {f : Addr} {fd : FuncData} {ps : List Str} {sp sp' : Sp} (F : FnOk P w K mg base CX k f fd ps sp)
    (h : ∀ vs H Q E, sp' vs H Q E → sp vs H Q E) : FnOk P w K mg base CX k f fd ps sp' :=
  ⟨fun vs H Q E q => F.len vs H Q E (h _ _ _ _ q), fun A outer s H args us vs Q E hr he hb hv hs => F.run A outer s H args us vs Q E hr he hb hv (h _ _ _ _ hs)⟩

theorem Env0.make {P : Program} {w : World} {K : PySem.W.Frag} {mg : Str → Option Value} {base : Heap} {A : Around} {outer : List Env} {s : Shared} {H : Hp} (e : Env0 P w K mg base A outer s H) (C : Addr) (us : List Value) (kw : List (Str × Value)) :
    Env0 P w K mg base (A.under (.builtin "type.__call__" ⟨.ref C :: us, kw⟩)) outer s H := ⟨by first | exact e.frames | (simpa [Around.under, Code.envs, Code.isFrame, pushEnvs] using e.frames), e.mod, e.bs, e.bsz, e.funs, e.frf, e.hok, e.bare⟩
theorem Env0.in1 {P : Program} {w : World} {K : PySem.W.Frag} {mg : Str → Option Value} {base : Heap} {A : Around} {outer : List Env} {s : Shared} {H : Hp} (e : Env0 P w K mg base A outer s H) :
    Env0 P w K mg base A.in1 outer s H := ⟨e.frames, e.mod, e.bs, e.bsz, e.funs, e.frf, e.hok, e.bare⟩

section
variable {X : Cx} {pins : List (Addr × Obj)} {σ : St} {H : Hp} {s s' : Shared}
/-- from a body: what a callee wants -/
theorem Inv.env0 (I : Inv X pins σ H s) : Env0 X.prog X.w X.K X.mg X.base X.A X.stack s H :=
  ⟨I.ok.frames, I.ok.mod, I.bs, Nat.le_trans I.ok.bsz I.sz, I.stack, I.stkFree, I.hok, I.bare⟩
/-- behind a call -/
theorem Inv.after {Q : VK} {u : Value} (I : Inv X pins σ H s) (h : CE X.stack X.prog X.w H s Q u s') : EP X pins σ Q u s' := by
  obtain ⟨v, H', os, bare, un, hok, r, q⟩ := h
  obtain ⟨hh, g, d, t, os'⟩ := s'
  obtain rfl : os' = s.os := os
  exact ⟨v, H', I.call (h' := hh) (g' := g) (d' := d) (t' := t) (ch := []) un hok bare (fun b z => absurd z (by simp)), r, q⟩
end

/-! ### calls -/
/-- f(..): the written arguments, then the defaults dvs; E: what is wanted of an exception -/
def tCall (sp : Sp) (dvs : List V) (E : XK) (t : TA) : TE := fun σ H Q => t σ H fun vs H1 => sp (vs ++ dvs) H1 Q E
/-- o.m(..) of an instance of the class at C -/
def tMeth (C : Addr) (m : Str) (sp : Sp) (dvs : List V) (E : XK) (ta : TE) (t : TA) : TE := fun σ H Q => ta σ H fun x H1 => ∃ a dx fs, x = .ref a ∧ H1 a = some (.ins C dx fs) ∧ fs.lookup m = none ∧
  t σ H1 fun vs H2 => sp (x :: (vs ++ dvs)) H2 Q E
/-- C(..): a new instance and its dict, then __init__ -/
def tMake (C : Addr) (sp : Sp) (dvs : List V) (E : XK) (t : TA) : TE := fun σ H Q => t σ H fun vs H1 => ∀ x dx, H1 x = none → H1 dx = none → dx ≠ x →
  sp (.ref x :: (vs ++ dvs)) (upd (upd H1 dx (.own x)) x (.ins C dx [])) (fun v H2 => v = .non ∧ Q (.ref x) H2) E

/-- how the parameters are bound: us the positional arguments, kw the keywords' values by name, ds the defaults that fill up -/
def Binds (K : PySem.W.Frag) (fd : FuncData) (ps : List Str) (ds : List Value) : Prop :=
  ∀ (s : Shared) (us : List Value), K.In s.heap → (us ++ ds).length = ps.length → BindsTo s fd ⟨us, []⟩ (ps.zip (us ++ ds))
/-- every parameter is given -/
theorem Binds.all {K : PySem.W.Frag} {fd : FuncData} {ps : List Str} (h : ∀ us : List Value, us.length = ps.length → bindArgs fd ⟨us, []⟩ = pure (ps.zip us)) : Binds K fd ps [] := fun s us _ hl => by
  rw [List.append_nil] at hl ⊢
  exact .of_eq (h us hl)

/-- an exception of a callee reaches what this body wants of exceptions -/
def Passes (CX : CXT) (X : Cx) (E : XK) : Prop := ∀ (pins : List (Addr × Obj)) (σ : St) (H : Hp) (s : Shared) (e : Value) (s' : Shared), Inv X pins σ H s → CX X.stack H s E e s' → X.xe e s'

section
variable {X : Cx} {CX : CXT} {k : Nat} {f C : Addr} {fd : FuncData} {ps : List Str} {sp : Sp} {dvs : List V} {ds : List Value} {E : XK} {x m : Str} {p pos apos : Pos} {e o : Expr} {es : List Expr} {ta : TE} {t : TA}

/-- the callee runs -/
theorem run_fn {pins : List (Addr × Obj)} {σ : St} {H : Hp} {s : Shared} {Q : VK} {us : List Value} {vs : List V} (F : FnOk X.prog X.w X.K X.mg X.base CX k f fd ps sp) (hr : Room k X.A) (hb : Binds X.K fd ps ds) (hd : Vals dvs ds) (hx : Passes CX X E)
    (I : Inv X pins σ H s) (r : Vals vs us) (h : sp (vs ++ dvs) H Q E) : wpAny (model X.prog X.w) X.A (call (.ref f) us) (EP X pins σ Q) X.xe s := by
  have r2 : Vals (vs ++ dvs) (us ++ ds) := r.append hd
  have hl : (us ++ ds).length = ps.length := by rw [← r2.length]; exact F.len _ _ _ _ h
  refine wpAny_call (codeAny_mono (F.run X.A X.stack s H ⟨us, []⟩ (us ++ ds) (vs ++ dvs) Q E hr I.env0 (hb s us I.kIn hl) r2 h) fun r s' hq => ?_)
  cases r with
  | error e => exact hx pins σ H s e s' I hq
  | ok fl =>
    cases fl with
    | ret u => exact I.after hq
    | next => exact False.elim hq
    | brk => exact False.elim hq
    | cont => exact False.elim hq

theorem pe_call (F : FnOk X.prog X.w X.K X.mg X.base CX k f fd ps sp) (hr : Room k X.A) (hg : Gl X x) (hm : X.mg x = some (.ref f)) (hk : PySem.W.keepIn X.K (.ref f) = true) (hb : Binds X.K fd ps ds) (hd : Vals dvs ds) (hx : Passes CX X E)
    (ha : PA X (e :: es) t) (hdb : (x == ("__debug__" : Str)) = false := by decide) (he : starEach (e :: es) X.env = (false, eval e X.env) :: starEach es X.env := by rfl) (hpl : (backTo pos (starEach es X.env)).any (·.1) = false := by rfl) :
    PE X (.Call (.Name x p) (e :: es) [] pos) (tCall sp dvs E t) := by
  intro pins s σ H Q I h
  refine wpAny_Call_Name_kw (ld_glob I hg hm ?_ hdb)
  refine PySem.W.callWith_K (h₀ := X.base) I.ok.mod.kin hk (thn (ha pos pins s σ H _ I h) fun us s1 ⟨vs, H1, I1, r, q⟩ => ⟨I1.kIn, ?_⟩) he hpl
  exact run_fn F hr hb hd hx I1 r q
/-- what a class must have to be made -/
structure Mk (K : PySem.W.Frag) (C f : Addr) : Prop where
  makes : PySem.W.makesIn K C = true
  init : PySem.W.findIn K (.ref C) "__init__" = some (some (.ref f))
  fn : PySem.W.isFn K (.ref f) = true
  kp : PySem.W.keepIn K (.ref C) = true

end

/-! ### keywords -/
/-- the values of the keywords, from the left -/
def PK (X : Cx) (kws : List Keyword) (t : TA) : Prop :=
  ∀ (pos : Pos) (pins : List (Addr × Obj)) (s : Shared) (σ : St) (H : Hp) (Q : List V → Hp → Prop), Inv X pins σ H s → t σ H Q → wpAny (model X.prog X.w) X.A (evalAll ((backToKw pos (keywordEach kws X.env)).map (·.2))) (AP X pins σ Q) X.xe s
section
variable {X : Cx} {CX : CXT} {k : Nat} {f C : Addr} {fd : FuncData} {ps ks : List Str} {sp : Sp} {E : XK} {x m : Str} {p pos apos kpos : Pos} {e o : Expr} {es : List Expr} {kws : List Keyword} {te ta : TE} {t tk : TA} {nm : Option Str}
theorem pk_nil : PK X [] tNil := fun _ _ _ _ H Q I h => wpAny_evalAll_nil ⟨[], H, I, .nil, h⟩
theorem pk_cons (ha : PE X e te) (hr : PK X kws t) : PK X (⟨nm, e, kpos⟩ :: kws) (tCons te t) := by
  intro pos pins s σ H Q I h
  show wpAny _ _ (evalAll ((do let v ← eval e X.env; standAt pos; pure v) :: (backToKw pos (keywordEach kws X.env)).map (·.2))) _ _ s
  refine wpAny_evalAll_cons (wpAny_bind (thn (ha pins s σ H _ I h) fun u s1 ⟨x, H1, I1, r1, q1⟩ => wpAny_bind (wpAny_standAt (wpAny_pure ?_))))
  exact thn (hr pos pins s1 σ H1 _ I1 q1) fun us s2 ⟨xs, H2, I2, r2, q2⟩ => ⟨x :: xs, H2, I2, .cons r1 r2, q2⟩

/-- how a call with keywords binds: g puts the positional values us and the keywords' values ws (names ks) in the parameters' order, defaults among them -/
structure KBinds (K : PySem.W.Frag) (fd : FuncData) (ps ks : List Str) (g : List Value → List Value → List Value) (gV : List V → List V → List V) : Prop where
  to : ∀ (s : Shared) (us ws : List Value), K.In s.heap → (g us ws).length = ps.length → BindsTo s fd ⟨us, ks.zip ws⟩ (ps.zip (g us ws))
  rel : ∀ {vs : List V} {us : List Value} {zs : List V} {ws : List Value}, Vals vs us → Vals zs ws → Vals (gV vs zs) (g us ws)
def tCallK (sp : Sp) (gV : List V → List V → List V) (E : XK) (t tk : TA) : TE := fun σ H Q => t σ H fun vs H1 => tk σ H1 fun zs H2 => sp (gV vs zs) H2 Q E
variable {g : List Value → List Value → List Value} {gV : List V → List V → List V}
theorem run_fnk {pins : List (Addr × Obj)} {σ : St} {H : Hp} {s : Shared} {Q : VK} {us ws : List Value} {vs zs : List V} (F : FnOk X.prog X.w X.K X.mg X.base CX k f fd ps sp) (hr : Room k X.A) (hb : KBinds X.K fd ps ks g gV) (hx : Passes CX X E)
    (I : Inv X pins σ H s) (r : Vals vs us) (rz : Vals zs ws) (h : sp (gV vs zs) H Q E) : wpAny (model X.prog X.w) X.A (call (.ref f) us (ks.zip ws)) (EP X pins σ Q) X.xe s := by
  have r2 := hb.rel r rz
  have hl : (g us ws).length = ps.length := by rw [← r2.length]; exact F.len _ _ _ _ h
  refine wpAny_call (codeAny_mono (F.run X.A X.stack s H ⟨us, ks.zip ws⟩ (g us ws) (gV vs zs) Q E hr I.env0 (hb.to s us ws I.kIn hl) r2 h) fun r s' hq => ?_)
  cases r with
  | error e => exact hx pins σ H s e s' I hq
  | ok fl =>
    cases fl with
    | ret u => exact I.after hq
    | next => exact False.elim hq
    | brk => exact False.elim hq
    | cont => exact False.elim hq
end

/-! ### a def's body keeps its promise -/
/-- names: the parameters first -/
structure FnScope (N P : List Str) (sc : Scope) : Prop where
  kind : sc.kind = .function
  co : sc.isCoroutine = false
  gen : sc.isGenerator = false
  nd : N.Nodup
  pre : N.take P.length = P
  par : ∀ x ∈ P, sc.names.lookup x = some .local ∨ sc.names.lookup x = some .cell
  nofree : ∀ y ∈ sc.names, y.2 ≠ .free

theorem bindL_out {kindOf : Str → Option NameKind} {x : Str} : ∀ {binds : List (Str × Value)} {m : Str → Option Value}, (∀ v, (x, v) ∉ binds) → bindL kindOf binds m x = m x
  | [], _, _ => rfl
  | (n, v) :: r, m, h => by
    unfold bindL
    rw [bindL_out fun w hw => h w (List.mem_cons_of_mem _ hw)]
    split
    · have : x ≠ n := by rintro rfl; exact h v List.mem_cons_self
      simp [this]
    · rfl
theorem bindC_out {kindOf : Str → Option NameKind} {x : Str} : ∀ {binds : List (Str × Value)} {m : Str → Option Value}, (∀ v, (x, v) ∉ binds) → bindC kindOf binds m x = m x
  | [], _, _ => rfl
  | (n, v) :: r, m, h => by
    unfold bindC
    rw [bindC_out fun w hw => h w (List.mem_cons_of_mem _ hw)]
    split
    · rfl
    · have : x ≠ n := by rintro rfl; exact h v List.mem_cons_self
      simp [this]
theorem bindL_get {kindOf : Str → Option NameKind} {x : Str} {v : Value} : ∀ {P : List Str} {vs : List Value} {i : Nat} {m : Str → Option Value}, P.Nodup → P[i]? = some x → vs[i]? = some v → kindOf x = some .local →
    bindL kindOf (P.zip vs) m x = some v
  | [], _, _, _, _, h, _, _ => by simp at h
  | _ :: _, [], _, _, _, _, h, _ => by simp at h
  | p :: P, w :: vs, 0, m, nd, h1, h2, hk => by
    simp at h1 h2; subst h1; subst h2
    show bindL kindOf ((p, w) :: P.zip vs) m p = _
    unfold bindL
    rw [bindL_out fun v hv => (List.nodup_cons.mp nd).1 (List.of_mem_zip hv).1, if_pos hk]
    simp
  | p :: P, w :: vs, i + 1, m, nd, h1, h2, hk => by
    show bindL kindOf ((p, w) :: P.zip vs) m x = _
    unfold bindL
    exact bindL_get (i := i) (List.nodup_cons.mp nd).2 (by simpa using h1) (by simpa using h2) hk
theorem bindC_get {kindOf : Str → Option NameKind} {x : Str} {v : Value} : ∀ {P : List Str} {vs : List Value} {i : Nat} {m : Str → Option Value}, P.Nodup → P[i]? = some x → vs[i]? = some v → kindOf x ≠ some .local →
    bindC kindOf (P.zip vs) m x = some v
  | [], _, _, _, _, h, _, _ => by simp at h
  | _ :: _, [], _, _, _, _, h, _ => by simp at h
  | p :: P, w :: vs, 0, m, nd, h1, h2, hk => by
    simp at h1 h2; subst h1; subst h2
    show bindC kindOf ((p, w) :: P.zip vs) m p = _
    unfold bindC
    rw [bindC_out fun v hv => (List.nodup_cons.mp nd).1 (List.of_mem_zip hv).1, if_neg hk]
    simp
  | p :: P, w :: vs, i + 1, m, nd, h1, h2, hk => by
    show bindC kindOf ((p, w) :: P.zip vs) m x = _
    unfold bindC
    exact bindC_get (i := i) (List.nodup_cons.mp nd).2 (by simpa using h1) (by simpa using h2) hk

/-- the names' values at the entry -/
def start (N : List Str) (vs : List V) : St := vs.map some ++ List.replicate (N.length - vs.length) none

/-- the context of a def's body, at its entry; an exception leaves the frame, then lies as CX says -/
def cxOf (CX : CXT) (P : Program) (w : World) (K : PySem.W.Frag) (mg : Str → Option Value) (base : Heap) (N : List Str) (qual : Str) (scope : Scope) (f : Addr) (cd : Value) (A : Around) (outer : List Env) (s : Shared) (H : Hp) (E : XK) : Cx where
  prog := P
  w := w
  K := K
  mg := mg
  base := base
  A := A.deeper (envOfC qual scope s.heap.objs.size f cd)
  N := N
  s₀ := s
  H₀ := H
  env := envOfC qual scope s.heap.objs.size f cd
  outer := outer
  stack := envOfC qual scope s.heap.objs.size f cd :: outer
  ex := []
  calm := true
  fn := fun _ => true
  pn := []
  xe := fun e s' => wpAny (model P w) (A.deeper (envOfC qual scope s.heap.objs.size f cd)) (leaving (envOfC qual scope s.heap.objs.size f cd) e) (fun _ s'' => CX outer H s E e s'') (fun e' s'' => CX outer H s E e' s'') s'

theorem cell_has {sc : Scope} {n : Nat} {x : Str} (h : sc.names.lookup x = some .cell) : ∃ c, (cellsFrom n sc.names []).lookup x = some c := by
  have q := PySem.W.cellsFrom_some sc.names n [] (.inl h)
  exact Option.isSome_iff_exists.mp q

theorem inv_start {CX : CXT} {P : Program} {w : World} {K : PySem.W.Frag} {mg : Str → Option Value} {base : Heap} {N ps : List Str} {qual : Str} {scope : Scope} {f : Addr} {cd : Value} {A : Around} {outer : List Env} {s s1 : Shared} {H : Hp} {E : XK} {us : List Value} {vs : List V}
    (S : FnScope N ps scope) (hd : A.handled = none) (e0 : Env0 P w K mg base A outer s H) (hl : vs.length = ps.length) (r : Vals vs us)
    (x : InCallC s s.heap.objs.size (bindL (envOfC qual scope s.heap.objs.size f cd).kindOf (ps.zip us) fun _ => none) (cellsFrom (s.heap.objs.size + 1) scope.names []) (bindC (envOfC qual scope s.heap.objs.size f cd).kindOf (ps.zip us) fun _ => none) s1) :
    Inv (cxOf CX P w K mg base N qual scope f cd A outer s H E) [] (start N vs) H s1 := by
  have hpl : ps.length ≤ N.length := by have := congrArg List.length S.pre; rw [List.length_take] at this; omega
  obtain ⟨h1, tk, rfl, hk⟩ := x.done
  have noA : ∀ b : Addr, b ∉ (cxOf CX P w K mg base N qual scope f cd A outer s H E).ex := fun b z => absurd (show b ∈ ([] : List Addr) from z) (by simp)
  refine ⟨⟨e0.mod, S.kind, rfl, rfl, Nat.le_refl _, fun y z c h1 h2 => ?_, fun y hy => ?_, fun y c _ h => ?_, fun _ => hd, Around.frames_deeper e0.frames, .inr ⟨rfl, rfl⟩, fun b z => absurd z (noA b), e0.bs, e0.bsz, fun b _ _ => noA b, fun b z => absurd z (noA b), e0.funs, e0.frf⟩,
    rfl, e0.bare, Un.kept hk, ⟨_, x.toInCall.ns, fun i y v h1 h2 h3 => ?_⟩, fun y c h => ⟨_, x.cell y c h⟩, e0.hok.fresh (Nat.le_refl _), fun y c h => ?_, fun p hp => absurd (show p ∈ ([] : List (Addr × Obj)) from hp) (by simp), e0.hok.kept hk, ?_⟩
  · exact name_of_addr x.apart (PySem.mem_of_lookup h1) (PySem.mem_of_lookup h2)
  · have hy : scope.names.lookup y = some .cell ∨ scope.names.lookup y = some .free := hy
    rcases hy with hy | hy
    · exact cell_has hy
    · exact absurd rfl (S.nofree _ (PySem.mem_of_lookup hy))
  · exact Nat.le_of_lt (x.above y c (PySem.mem_of_lookup h))
  · have hi : i < vs.length := by
      unfold start at h2
      by_cases hi : i < vs.length
      · exact hi
      · rw [List.getElem?_append_right (by simpa using hi)] at h2
        rw [List.getElem?_replicate] at h2
        split at h2 <;> cases h2
    have ha : vs[i]? = some v := by
      unfold start at h2
      rw [List.getElem?_append_left (by simpa using hi), List.getElem?_map] at h2
      cases e : vs[i]? with
      | none => rw [e] at h2; cases h2
      | some a => rw [e] at h2; cases h2; rfl
    obtain ⟨u, hu, rv⟩ := r.get ha
    have hp : ps[i]? = some y := by
      rw [← S.pre, List.getElem?_take_of_lt (by omega)]; exact h1
    have ndP : ps.Nodup := by rw [← S.pre]; exact S.nd.sublist (List.take_sublist _ _)
    refine ⟨u, rv, ?_⟩
    rcases S.par y (List.mem_of_getElem? hp) with k | k
    · exact .inl ⟨k, bindL_get ndP hp hu k⟩
    · obtain ⟨c, e⟩ := cell_has (n := s.heap.objs.size + 1) k
      refine .inr ⟨.inl k, c, e, ?_⟩
      have q := x.cell y c e
      rw [bindC_get ndP hp hu (by show scope.names.lookup y ≠ _; rw [k]; decide)] at q
      exact q
  · exact e0.hok.fresh (Nat.le_of_lt (x.above y c (PySem.mem_of_lookup h)))
  · unfold start
    show _ = N.length
    rw [List.length_append, List.length_map, List.length_replicate]
    omega

/-- THE RULE: a def (or a method) of the text, by its body. The body's reading t is chosen for each entry; it is run at the parameters' values -/
theorem fn_of {CX : CXT} {P : Program} {w : World} {K : PySem.W.Frag} {mg : Str → Option Value} {base : Heap} {k : Nat} {f : Addr} {name qual : Str} {params : Arguments} {body : List Stmt} {scope : Scope} {dV kV doc pm cdv ct oc : Value} {an od : Option Addr}
    {osl : Array (Option Value)} {N ps : List Str} {sp : Sp} (lk : K.lookup f = some ⟨oc, od, .func (PySem.W.fnOf name qual params body scope dV kV doc pm an cdv ct), osl⟩) (hcd : PySem.W.codeIn K cdv qual = true) (S : FnScope N ps scope)
    (len : ∀ vs H Q E, sp vs H Q E → vs.length = ps.length)
    (hbody : ∀ (A : Around) (outer : List Env) (s : Shared) (H : Hp) (vs : List V) (Q : VK) (E : XK), Room k (A.deeper (envOfC qual scope s.heap.objs.size f cdv)) → sp vs H Q E →
      ∃ t, PSs (cxOf CX P w K mg base N qual scope f cdv A outer s H E) body t ∧ t { nx := fun _ H' => Q .non H', rt := Q } (start N vs) H) :
    FnOk P w K mg base CX (k + 1) f (PySem.W.fnOf name qual params body scope dV kV doc pm an cdv ct) ps sp := by
  refine ⟨len, fun A outer s H args us vs Q E hr e0 hb r hsp => ?_⟩
  have hl := len _ _ _ _ hsp
  have KX : K.In s.heap := e0.mod.kin.keeps fun b o e => (e0.bs b o e).1
  have lim : s.heap.NoLimit := e0.mod.nolimit.keeps fun b o e => (e0.bs b o e).1
  have hkind : ∀ y ∈ ps.zip us, scope.names.lookup y.1 = some .local ∨ (scope.names.lookup y.1 = some .cell ∧ ((cellsFrom (s.heap.objs.size + 1) scope.names []).lookup y.1).isSome = true) := fun ⟨n, v⟩ hy => by
    rcases S.par n (List.of_mem_zip hy).1 with q | q
    · exact .inl q
    · exact .inr ⟨q, PySem.W.cellsFrom_some _ _ _ (.inl q)⟩
  refine codeAny_call_function hr.depth (KX _ _ lk) rfl S.co S.gen rfl (PySem.W.codeRec_of KX hcd) (hb _ _ _ _ ?_)
  refine wpAny_newFunctionEnv_cells S.kind hkind fun env he s1 x => ?_
  subst he
  refine ⟨lim.keeps x.toInCall.keep, codeAny_func ?_⟩
  obtain ⟨t, ht, hq⟩ := hbody A outer s H vs Q E (hr.deeper _) hsp
  have I : Inv (cxOf CX P w K mg base N qual scope f cdv A outer s H E) [] (start N vs) H s1 := inv_start S hr.hd e0 hl r x
  refine wpAny_mono (ht [] s1 (start N vs) H _ I hq) (fun fl s' hs => ?_) fun e s' hs => hs
  have fin : ∀ {σ' : St} {H' : Hp} {v : V} {u : Value}, Inv (cxOf CX P w K mg base N qual scope f cdv A outer s H E) [] σ' H' s' → RelV v u → Q v H' → CE outer P w H s Q u s' :=
    fun {σ' H' v u} J rv q => ⟨v, H', J.os, J.bare, J.base, J.hok, rv, q⟩
  cases fl with
  | ret u =>
    obtain ⟨v, σ', H', J, rv, q⟩ := hs
    exact fin J rv q
  | next =>
    obtain ⟨σ', H', J, q⟩ := hs
    exact fin (v := V.non) (u := Value.none) J rfl q
  | brk =>
    obtain ⟨_, _, _, q⟩ := hs
    exact False.elim q
  | cont =>
    obtain ⟨_, _, _, q⟩ := hs
    exact False.elim q
end L2

namespace L2
open PySem PySem.Spec PyProof.Rows
section
variable {X : Cx} {x : Str} {p pos : Pos} {e : Expr} {es : List Expr} {t : TA} {id T : String} {r : List V → Hp → VK → Prop}

def tCB (r : List V → Hp → VK → Prop) (t : TA) : TE := fun σ H Q => t σ H fun vs H1 => r vs H1 Q
/-- f(e, ..), f a built-in function -/
theorem pe_callB (hc : CallR X (.builtin id) r) (hg : Gl X x) (hm : X.mg x = none) (hv : bootBuiltins x = some (.builtin id)) (ha : PA X (e :: es) t) (hn : x ≠ "__name__" := by decide) (hdb : (x == ("__debug__" : Str)) = false := by decide)
    (he : starEach (e :: es) X.env = (false, eval e X.env) :: starEach es X.env := by rfl) (hpl : (backTo pos (starEach es X.env)).any (·.1) = false := by rfl) : PE X (.Call (.Name x p) (e :: es) [] pos) (tCB r t) := by
  intro pins s σ H Q I h
  refine wpAny_Call_Name_kw (ld_blt I hg hm hv ?_ hn hdb)
  exact PyProof.Rows.callWith_builtin1 (thn (ha pos pins s σ H _ I h) fun us s1 ⟨vs, H1, I1, r1, q1⟩ => hc pins s1 σ H1 vs us Q I1 r1 q1) he hpl
/-- T(e, ..), T a built-in type -/
theorem pe_callTy (hc : CallR X (.type T) r) (hg : Gl X x) (hm : X.mg x = none) (hv : bootBuiltins x = some (.type T)) (ha : PA X (e :: es) t) (hn : x ≠ "__name__" := by decide) (hdb : (x == ("__debug__" : Str)) = false := by decide)
    (he : starEach (e :: es) X.env = (false, eval e X.env) :: starEach es X.env := by rfl) (hpl : (backTo pos (starEach es X.env)).any (·.1) = false := by rfl) : PE X (.Call (.Name x p) (e :: es) [] pos) (tCB r t) := by
  intro pins s σ H Q I h
  refine wpAny_Call_Name_kw (ld_blt I hg hm hv ?_ hn hdb)
  exact PyProof.Rows.callWith_type1 (thn (ha pos pins s σ H _ I h) fun us s1 ⟨vs, H1, I1, r1, q1⟩ => hc pins s1 σ H1 vs us Q I1 r1 q1) he hpl
end
end L2

namespace HT
open PySem PyProof.Rows

/-- t < u of tuples of ints -/
def lexLt : List Int → List Int → Bool
  | [], [] => false
  | [], _ :: _ => true
  | _ :: _, [] => false
  | x :: xs, y :: ys => if x = y then lexLt xs ys else decide (x < y)
section
open PySem.SeqAt
open PySem.AutoSeq1 (wpAny_loadPart')
open PySem.MeetsSeq PySem.MeetsSeq2 PySem.MeetsSeq3

end

section
variable {prog : Program} {w : World} {A : Around} {E : Value → Shared → Prop} {s : Shared}

/-! ### t[a:b], not the whole -/
/-- a slice's bound as a place among n (d where it is left out) -/
def sIx (n d : Nat) : Option Int → Nat
  | none => d
  | some v => if v < 0 then (v + (n : Int)).toNat else min v.toNat n
end
end HT

namespace L2
open PySem PySem.Spec PyProof.Rows

/-! ### the parts of a slice -/
abbrev TO := St → Hp → (Option Int → Hp → Prop) → Prop
/-- a slice's part (left out, or an int) -/
def PO (X : Cx) (e : Option Expr) (t : TO) : Prop :=
  ∀ (pins : List (Addr × Obj)) (s : Shared) (σ : St) (H : Hp) (Q : Option Int → Hp → Prop), Inv X pins σ H s → t σ H Q →
    wpAny (model X.prog X.w) X.A (evalPart e X.env) (fun u s' => ∃ o H', Inv X pins σ H' s' ∧ IsPart u o ∧ Q o H') X.xe s
def tNoPart : TO := fun _ H Q => Q none H
def tPart (t : TE) : TO := fun σ H Q => t σ H fun x H1 => ∃ i, x = .int i ∧ Q (some i) H1

section
variable {X : Cx} {e : Expr} {te : TE} {lo hi : Option Expr} {tl th : TO} {pos p2 : Pos}

theorem po_none : PO X none tNoPart := by
  intro pins s σ H Q I h
  rw [evalPart_none]
  exact wpAny_pure ⟨none, H, I, .none, h⟩
theorem po_some (h : PE X e te) : PO X (some e) (tPart te) := by
  intro pins s σ H Q I hw
  rw [evalPart_some]
  refine thn (h pins s σ H _ I hw) fun u s1 ⟨x, H1, I1, r1, q1⟩ => ?_
  obtain ⟨i, rfl, q⟩ := q1
  obtain ⟨t, rfl⟩ := r1
  exact ⟨some i, H1, I1, .int i t, q⟩

/-- what a slice of a value is, by values: the slice object stands at sl -/
def SlR (X : Cx) (r : V → Option Int → Option Int → Hp → VK → Prop) : Prop :=
  ∀ (pins : List (Addr × Obj)) (s : Shared) (σ : St) (H : Hp) (x : V) (v vl vu : Value) (lo hi : Option Int) (sl : Addr) (Q : VK), Inv X pins σ H s → RelV x v → s.heap.IsSliceOf sl vl vu .none → IsPart vl lo → IsPart vu hi → r x lo hi H Q →
    ∃ T id, typeLookup (.type T) "__getitem__" = pure (some (.builtin id)) ∧ s.TypeIs v T ∧ wpAny (model X.prog X.w) X.A (getItem v (.ref sl)) (EP X pins σ Q) X.xe s
def tSl (r : V → Option Int → Option Int → Hp → VK → Prop) (te : TE) (tl th : TO) : TE := fun σ H Q => te σ H fun x H1 => tl σ H1 fun l H2 => th σ H2 fun u H3 => r x l u H3 Q
/-- a[lo:hi], any a -/
theorem pe_slice {r : V → Option Int → Option Int → Hp → VK → Prop} (hr : SlR X r) (he : PE X e te) (hl : PO X lo tl) (hu : PO X hi th) : PE X (.Subscript e (.Slice lo hi none p2) pos) (tSl r te tl th) := by
  intro pins s σ H Q I h
  refine Subscript_ (thn (he pins s σ H _ I h) fun v s1 ⟨x, H1, I1, r1, q1⟩ => ?_)
  refine wpAny_Slice (thn (hl pins s1 σ H1 _ I1 q1) fun vl s2 ⟨l, H2, I2, pl, q2⟩ => thn (hu pins s2 σ H2 _ I2 q2) fun vu s3 ⟨u, H3, I3, pu, q3⟩ => ?_)
  rw [evalPart_none]
  refine wpAny_pure ?_
  have I4 : Inv X pins σ H3 { s3 with heap := s3.heap.push { cls := .type "slice", data := .fields #[vl, vu, .none] } } := I3.kept (t' := s3.toks) fun b ob q => Heap.get?_push_of_some _ q
  obtain ⟨T, id, hT, ht, hg⟩ := hr pins { s3 with heap := s3.heap.push { cls := .type "slice", data := .fields #[vl, vu, .none] } } σ H3 x v vl vu l u s3.heap.objs.size Q I4 r1 (Heap.IsSliceOf.new ..) pl pu q3
  show wpAny (model X.prog X.w) X.A (subscriptTail e (.Slice lo hi none p2) v (.ref s3.heap.objs.size)) (EP X pins σ Q) X.xe { s3 with heap := s3.heap.push { cls := .type "slice", data := .fields #[vl, vu, .none] } }
  exact tail_any (ops := [.ref s3.heap.objs.size, v]) ht hT hg (by with_unfolding_all rfl)

/-- the items of xs[lo:hi] -/
def cutV (xs : List V) (lo hi : Option Int) : List V := (xs.drop (HT.sIx xs.length 0 lo)).take (HT.sIx xs.length xs.length hi - HT.sIx xs.length 0 lo)
theorem cutV_length (xs : List V) (lo hi : Option Int) : (cutV xs lo hi).length ≤ xs.length := by
  unfold cutV
  rw [List.length_take, List.length_drop]
  omega
/-- t[lo:hi], not the whole of it (the whole would be t itself) -/
def rSlT (K : PySem.W.Frag) : V → Option Int → Option Int → Hp → VK → Prop := fun x lo hi H Q => ∃ a xs, x = .ref a ∧ SqT K H a xs ∧
  ¬ (HT.sIx xs.length 0 lo = 0 ∧ HT.sIx xs.length xs.length hi = xs.length) ∧ ∀ p, H p = none → Q (.ref p) (upd H p (.tup (cutV xs lo hi)))
/-! ### t < u, t + u -/
def rLtT (K : PySem.W.Frag) : R2 := fun x y H Q => ∃ a b ns ms, x = .ref a ∧ y = .ref b ∧ SqT K H a (ns.map V.int) ∧ SqT K H b (ms.map V.int) ∧ Q (.bl (HT.lexLt ns ms)) H
/-- t + u, t not empty: u empty gives t itself -/
def rCatT (K : PySem.W.Frag) : R2 := fun x y H Q => ∃ a b xs ys, x = .ref a ∧ y = .ref b ∧ SqT K H a xs ∧ SqT K H b ys ∧ xs ≠ [] ∧ xs.length + ys.length ≤ sizeLine ∧
  (ys = [] → Q (.ref a) H) ∧ (ys ≠ [] → ∀ p, H p = none → Q (.ref p) (upd H p (.tup (xs ++ ys))))
end
end L2

namespace L2
open PySem PySem.Spec PyProof.Rows

/-! ### places -/
/-- the place that an index of any sign means -/
def ixN (n : Nat) (i : Int) : Option Nat := if 0 ≤ i then (if i < n then some i.toNat else none) else if -(n : Int) ≤ i then some (i + n).toNat else none
def atI {α : Type} (xs : List α) (i : Int) : Option α := (ixN xs.length i).bind fun j => xs[j]?
theorem ixN_seq {n : Nat} {i : Int} {j : Nat} (h : ixN n i = some j) : seqIndex? i n = some j ∧ j < n ∧ -(n : Int) ≤ i ∧ i < n := by
  unfold ixN at h
  by_cases h0 : 0 ≤ i
  · rw [if_pos h0] at h
    by_cases h1 : i < n
    · rw [if_pos h1] at h
      have e : i.toNat = j := Option.some.inj h
      exact ⟨by rw [seqIndex_of h0 h1, e], by omega, by omega, h1⟩
    · rw [if_neg h1] at h; cases h
  · rw [if_neg h0] at h
    by_cases h1 : -(n : Int) ≤ i
    · rw [if_pos h1] at h
      have e : (i + n).toNat = j := Option.some.inj h
      exact ⟨by rw [seqIndex_neg (by omega) h1, e], by omega, h1, by omega⟩
    · rw [if_neg h1] at h; cases h
theorem atI_get {α : Type} {xs : List α} {i : Int} {v : α} (h : atI xs i = some v) : ∃ j, seqIndex? i xs.length = some j ∧ xs[j]? = some v ∧ j < xs.length ∧ -(xs.length : Int) ≤ i ∧ i < xs.length := by
  unfold atI at h
  cases e : ixN xs.length i with
  | none => rw [e] at h; cases h
  | some j =>
    rw [e] at h
    obtain ⟨h1, h2, h3, h4⟩ := ixN_seq e
    exact ⟨j, h1, h, h2, h3, h4⟩
theorem atI_nat {α : Type} {xs : List α} {j : Nat} {v : α} (h : xs[j]? = some v) : atI xs (j : Int) = some v := by
  have hj : j < xs.length := (List.getElem?_eq_some_iff.mp h).1
  have e : ixN xs.length (j : Int) = some j := by
    unfold ixN
    rw [if_pos (by omega), if_pos (by omega)]; simp
  unfold atI; rw [e]; exact h
/-! ### what may be subscripted -/
/-- what stands as an index of a plain subscript -/
def PlainIx (b : Expr) : Prop := ∀ o i, subscripted b false o i = operate [o, i] (getItem o i)
/-- a subscript by values -/
def IxR (X : Cx) (r : R2) : Prop :=
  ∀ (value slice : Expr) (pins : List (Addr × Obj)) (s : Shared) (σ : St) (H : Hp) (x y : V) (v u : Value) (Q : VK), Inv X pins σ H s → RelV x v → RelV y u → r x y H Q →
    subscripted slice false v u = operate [v, u] (getItem v u) → wpAny (model X.prog X.w) X.A (subscriptTail value slice v u) (EP X pins σ Q) X.xe s
/-- a call of a builtin's method by values: the receiver, the arguments -/
def MtR (X : Cx) (id : String) (r : V → List V → Hp → VK → Prop) : Prop :=
  ∀ (pins : List (Addr × Obj)) (s : Shared) (σ : St) (H : Hp) (x : V) (xs : List V) (v : Value) (us : List Value) (Q : VK), Inv X pins σ H s → RelV x v → Vals xs us → r x xs H Q →
    wpAny (model X.prog X.w) X.A (call (.builtin id) (v :: us)) (EP X pins σ Q) X.xe s
section
variable {X : Cx} {a b : Expr} {ta tb : TE} {pos : Pos}
/-- a[b] -/
theorem pe_ix {r : R2} (hr : IxR X r) (ha : PE X a ta) (hb : PE X b tb) (hs : PlainIx b) : PE X (.Subscript a b pos) (tOp r ta tb) := by
  intro pins s σ H Q I h
  exact Subscript_ (binT ha hb I h fun v u s2 x y H2 I2 rx ry q => hr a b pins s2 σ H2 x y v u Q I2 rx ry q (hs _ _))

def rIxL (K : PySem.W.Frag) : R2 := fun x y H Q => ∃ p xs i v, x = .ref p ∧ y = .int i ∧ SqL K H p xs ∧ atI xs i = some v ∧ Q v H
def rIxT (K : PySem.W.Frag) : R2 := fun x y H Q => ∃ p xs i v, x = .ref p ∧ y = .int i ∧ SqT K H p xs ∧ atI xs i = some v ∧ Q v H
def rIxS : R2 := fun x y H Q => ∃ z i c, x = .str z ∧ y = .int i ∧ z.length ≤ sizeLine ∧ atI z.cps.toList i = some c ∧ Q (.str ⟨#[c]⟩) H
theorem ix_list : IxR X (rIxL X.K) := by
  intro value slice pins s σ H x y v u Q I rx ry h hs
  obtain ⟨p, xs, i, z, rfl, rfl, hq, he, q⟩ := h
  cases rx
  obtain ⟨t, rfl⟩ := ry
  obtain ⟨its, r, pl, hz⟩ := I.list hq
  obtain ⟨j, h1, h2, h3, h4, h5⟩ := atI_get he
  obtain ⟨w, ew, rw'⟩ := r.get h2
  have hl := r.length
  have hn := line63
  have fin : EP X pins σ Q w s := ⟨z, H, I, rw', q⟩
  by_cases h0 : 0 ≤ i
  · have hj : i.toNat = j := by
      rw [seqIndex_of h0 h5] at h1
      exact Option.some.inj h1
    exact item_listR pl.isList h0 (by omega) (by rw [hj]; simpa using ew) fin hs
  · have hj : (i + (its.toArray.size : Int)).toNat = j := by
      rw [seqIndex_neg (by omega) h4] at h1
      rw [List.size_toArray, ← hl]
      exact Option.some.inj h1
    exact subscriptTail_builtinR (x := w) pl.isList.typeIs slot_list_getitem.lookup
      (wpAny_getItem_list_neg (Q := fun r s' => r = w ∧ EP X pins σ Q r s') pl.isList (by omega) (by rw [List.size_toArray] <;> omega) (by omega) (by rw [hj]; simpa using ew) ⟨rfl, fin⟩) hs
theorem ix_tup : IxR X (rIxT X.K) := by
  intro value slice pins s σ H x y v u Q I rx ry h hs
  obtain ⟨p, xs, i, z, rfl, rfl, hq, he, q⟩ := h
  cases rx
  obtain ⟨t, rfl⟩ := ry
  obtain ⟨its, r, pl, hz⟩ := I.tuple hq
  obtain ⟨j, h1, h2, h3, h4, h5⟩ := atI_get he
  obtain ⟨w, ew, rw'⟩ := r.get h2
  have hl := r.length
  have hn := line63
  have fin : EP X pins σ Q w s := ⟨z, H, I, rw', q⟩
  exact subscriptTail_builtinR (x := w) pl.typeIs slot_tuple_getitem.lookup
    (getItem_tuple (j := j) (Q := fun r s' => r = w ∧ EP X pins σ Q r s') pl (by omega) (by omega) (by rw [List.size_toArray, ← hl]; exact h1) (by simpa using ew) ⟨rfl, fin⟩) hs
theorem ix_str : IxR X rIxS := by
  intro value slice pins s σ H x y v u Q I rx ry h hs
  obtain ⟨z, i, c, rfl, rfl, hz, he, q⟩ := h
  obtain ⟨t, rfl⟩ := rx
  obtain ⟨t', rfl⟩ := ry
  obtain ⟨j, h1, h2, h3, h4, h5⟩ := atI_get he
  have hl : z.cps.toList.length = z.length := by simp [Str.length]
  rw [hl] at h1 h4 h5
  have hn := line63
  exact tail_any (typeIs_str s z t) slot_str_getitem.lookup (getItem_str (c := c) (by
    have e1 : decide (i < -(2 ^ 63 : Int)) = false := decide_eq_false (by omega)
    have e2 : decide (i ≥ 2 ^ 63) = false := decide_eq_false (by omega)
    rw [e1, e2, Bool.or_false]) (by rw [h1]; simpa using h2) ⟨.str ⟨#[c]⟩, H, I.tok _, ⟨_, rfl⟩, q⟩) hs
/-- list, tuple or str -/
def rIx (K : PySem.W.Frag) : R2 := fun x y H Q => rIxL K x y H Q ∨ rIxT K x y H Q ∨ rIxS x y H Q
/-! ### xs[i] = v, any sign -/
/-- the list's object behind a store -/
theorem mapSeq_set (its : List Value) (n j : Nat) (u : Value) : Obj.mapSeq (·.setIfInBounds j u) { cls := .type "list", data := .seq its.toArray n } = { cls := .type "list", data := .seq (its.set j u).toArray n } := by
  simp [Obj.mapSeq]
theorem Inv.lst {pins : List (Addr × Obj)} {σ : St} {H : Hp} {s : Shared} {p : Addr} {xs : List V} (I : Inv X pins σ H s) (h : H p = some (.lst xs)) :
    ∃ (its : List Value) (n : Nat), Vals xs its ∧ s.heap.get? p = some { cls := .type "list", data := .seq its.toArray n } ∧ xs.length ≤ sizeLine := by
  obtain ⟨z, its, n, r, e⟩ := I.hok p _ h
  exact ⟨its, n, r, e, z⟩
/-- the list at p is written by an update of its object -/
theorem Inv.lstUpd {pins : List (Addr × Obj)} {σ : St} {H : Hp} {s : Shared} {p : Addr} {xs ys : List V} {its its' : List Value} {n n' : Nat} {f : Obj → Obj} (I : Inv X pins σ H s) (h : H p = some (.lst xs))
    (ho : s.heap.get? p = some { cls := .type "list", data := .seq its.toArray n }) (hf : f { cls := .type "list", data := .seq its.toArray n } = { cls := .type "list", data := .seq its'.toArray n' }) (r : Vals ys its') (hz : ys.length ≤ sizeLine) (t : Nat) :
    Inv X pins σ (upd H p (.lst ys)) { s with heap := s.heap.update p f, toks := t } := by
  have e : (s.heap.update p f).get? p = some { cls := .type "list", data := .seq its'.toArray n' } := by
    rw [Heap.get?_update_self f ho (by rw [hf] <;> rfl), hf]
  refine I.write (x := p) (e := p) (by rw [h]; trivial) (.inl rfl) (fun b u hb q => (Heap.get?_update_other _ _ (Ne.symm hb)).trans q) ⟨_, e⟩ ?_
  exact ⟨hz, its', n', r, e⟩
def rSetL : V → V → V → Hp → (Hp → Prop) → Prop := fun o i v H Q => ∃ p xs k j, o = .ref p ∧ i = .int k ∧ H p = some (.lst xs) ∧ ixN xs.length k = some j ∧ Q (upd H p (.lst (xs.set j v)))
theorem set_list : PSet X rSetL := by
  intro pins s σ H o i v ov iv u Q I ro ri rv h
  obtain ⟨p, xs, k, j, rfl, rfl, hp, hj, q⟩ := h
  cases ro
  obtain ⟨t, rfl⟩ := ri
  obtain ⟨its, n, r, ho, hz⟩ := I.lst hp
  obtain ⟨h1, h2, h3, h4⟩ := ixN_seq hj
  have hl := r.length
  have hn := line63
  have I' : Inv X pins σ (upd H p (.lst (xs.set j v))) { s with heap := s.heap.update p (Obj.mapSeq (·.setIfInBounds j u)) } :=
    I.lstUpd hp ho (mapSeq_set its n j u) (r.set rv j) (by rw [List.length_set]; exact hz) s.toks
  by_cases h0 : 0 ≤ k
  · have hk : k.toNat = j := by
      rw [seqIndex_of h0 h4] at h1
      exact Option.some.inj h1
    exact PySem.W.ki_setAt ho h0 (by omega) (by rw [List.size_toArray, ← hl]; exact h4) (by rw [hk]; exact ⟨_, I', q⟩)
  · have hk : (k + (its.toArray.size : Int)).toNat = j := by
      rw [seqIndex_neg (by omega) h3] at h1
      rw [List.size_toArray, ← hl]
      exact Option.some.inj h1
    exact PySem.W.ki_setBack ho (by omega) (by rw [List.size_toArray, ← hl]; exact h3) (by omega) (by rw [hk]; exact ⟨_, I', q⟩)

/-! ### slices -/
theorem slice_bounds (lo hi : Option Int) (n : Nat) : (sliceBounds lo hi none n).1 = ((HT.sIx n 0 lo : Nat) : Int) ∧ (sliceBounds lo hi none n).2.1 = ((HT.sIx n n hi : Nat) : Int) ∧ (sliceBounds lo hi none n).2.2 = 1 := by
  refine ⟨?_, ?_, rfl⟩
  · cases lo with
    | none => simp [sliceBounds, HT.sIx]
    | some i =>
      simp only [sliceBounds, HT.sIx, Option.getD_none, show (1 : Int) > 0 by decide, if_true]
      by_cases h : i < 0
      · simp only [h, if_true] <;> omega
      · simp only [h, if_false] <;> omega
  · cases hi with
    | none => simp [sliceBounds, HT.sIx]
    | some i =>
      simp only [sliceBounds, HT.sIx, Option.getD_none, show (1 : Int) > 0 by decide, if_true]
      by_cases h : i < 0
      · simp only [h, if_true] <;> omega
      · simp only [h, if_false] <;> omega
theorem slicePick_cut (its : List Value) (lo hi : Option Int) : slicePick its.toArray lo hi none = ((its.drop (HT.sIx its.length 0 lo)).take (HT.sIx its.length its.length hi - HT.sIx its.length 0 lo)).toArray := by
  obtain ⟨h1, h2, h3⟩ := slice_bounds lo hi its.toArray.size
  unfold slicePick
  rw [h1, h2, h3]
  simp only [sliceRange_one, pick_run, List.size_toArray] <;> rfl
/-- xs[lo:hi] of a list: a new list -/
def rSlL (K : PySem.W.Frag) : V → Option Int → Option Int → Hp → VK → Prop := fun x lo hi H Q => ∃ a xs, x = .ref a ∧ SqL K H a xs ∧ ∀ p, H p = none → Q (.ref p) (upd H p (.lst (cutV xs lo hi)))
theorem sl_list : SlR X (rSlL X.K) := by
  intro pins s σ H x v vl vu lo hi sl Q I rx hs pl pu h
  obtain ⟨a, xs, rfl, hx, q⟩ := h
  cases rx
  obtain ⟨its, r, ht, hz⟩ := I.list hx
  have hlen := r.length
  refine ⟨"list", _, slot_list_getitem.lookup, ht.isList.typeIs, ?_⟩
  refine wpAny_getItem_list_slice ht.isList hs pl pu .none (by simp) ?_ (by rw [List.size_toArray] <;> omega)
  rw [slicePick_cut, ← hlen]
  refine ⟨.ref s.heap.objs.size, _, I.laid (t' := s.toks) (o := .lst (cutV xs lo hi)) (fun b ob q => Heap.get?_push_of_some _ q) (Nat.le_refl _) ?_, rfl, q _ (I.hok.fresh (Nat.le_refl _))⟩
  exact ⟨Nat.le_trans (cutV_length xs lo hi) hz, _, 0, (r.drop (HT.sIx xs.length 0 lo)).take (HT.sIx xs.length xs.length hi - HT.sIx xs.length 0 lo), Heap.get?_push_size _ rfl⟩

/-! ### in, not in: flat items -/
def flatV : V → Bool
  | .non => true
  | .bl _ => true
  | .int _ => true
  | .str _ => true
  | _ => false
/-- == of flat values -/
def eqV : V → V → Bool
  | .non, .non => true
  | .bl a, .bl b => a == b
  | .bl a, .int b => (if a then 1 else 0) == b
  | .int a, .bl b => a == (if b then 1 else 0)
  | .int a, .int b => a == b
  | .str a, .str b => a == b
  | _, _ => false
/-- the items' answers, read off the values (a value's own answer does not lean on its token) -/
def eqU (x : V) (u : Value) : Bool := match u with
  | .none => eqV .non x
  | .bool b => eqV (.bl b) x
  | .int i _ => eqV (.int i) x
  | .str z _ => eqV (.str z) x
  | _ => false
def inV (x : V) (xs : List V) : Bool := xs.any fun y => eqV y x
/-- x in a list or tuple of flat items -/
def rIn (K : PySem.W.Frag) (neg : Bool) : R2 := fun x y H Q => ∃ p xs, y = .ref p ∧ (SqL K H p xs ∨ SqT K H p xs) ∧ flatV x = true ∧ xs.all flatV = true ∧ Q (.bl (if neg then !inV x xs else inV x xs)) H
/-! ### len, list(x), tuple(x) of any list or tuple that is read -/
theorem call_len_seq : CallR X (.builtin "len") (fun xs H Q => ∃ p ys, xs = [.ref p] ∧ (SqL X.K H p ys ∨ SqT X.K H p ys) ∧ Q (.int ys.length) H) := by
  intro pins s σ H xs us Q I r h
  obtain ⟨p, ys, rfl, hq, q⟩ := h
  obtain ⟨u, rfl, rx⟩ := vals1 r
  cases rx
  have hn := line63
  rcases hq with hq | hq
  · obtain ⟨its, r', pl, hz⟩ := I.list hq
    have hlen := r'.length
    exact Calls.call_len_list pl.isList (by simp only [List.size_toArray] <;> omega) ⟨.int ys.length, H, I.tok _, ⟨s.toks + 1, by rw [List.size_toArray, hlen]⟩, q⟩
  · obtain ⟨its, r', pl, hz⟩ := I.tuple hq
    have hlen := r'.length
    exact len_tuple pl (by simp only [List.size_toArray] <;> omega) ⟨.int ys.length, H, I.tok _, ⟨s.toks + 1, by rw [List.size_toArray, hlen]⟩, q⟩
theorem call_len_str : CallR X (.builtin "len") (fun xs H Q => ∃ z, xs = [.str z] ∧ z.length ≤ sizeLine ∧ Q (.int z.length) H) := by
  intro pins s σ H xs us Q I r h
  obtain ⟨z, rfl, hz, q⟩ := h
  obtain ⟨u, rfl, t, rfl⟩ := vals1 r
  have hn := line63
  exact len_str (by omega) ⟨.int z.length, H, I.tok _, ⟨_, rfl⟩, q⟩
theorem call_list_of : CallR X (.type "list") (fun xs H Q => ∃ p ys, xs = [.ref p] ∧ (SqL X.K H p ys ∨ SqT X.K H p ys) ∧ ∀ l, H l = none → Q (.ref l) (upd H l (.lst ys))) := by
  intro pins s σ H xs us Q I r h
  obtain ⟨p, ys, rfl, hq, q⟩ := h
  obtain ⟨u, rfl, rx⟩ := vals1 r
  cases rx
  have fin : ∀ (its : List Value), Vals ys its → ys.length ≤ sizeLine → ∀ (h' : Heap) (c' : Nat), (∀ b o', s.heap.get? b = some o' → h'.get? b = some o') →
      h'.get? s.heap.objs.size = some { cls := .type "list", dict := none, data := .seq its.toArray c', slots := #[] } → EP X pins σ Q (.ref s.heap.objs.size) { s with heap := h' } := fun its r' hz h' c' kp e =>
    ⟨.ref s.heap.objs.size, _, I.laid (t' := s.toks) kp (Nat.le_refl _) (show ObjOk X.prog X.w _ h' _ (.lst ys) from ⟨hz, its, c', r', e⟩), rfl, q _ (I.hok.fresh (Nat.le_refl _))⟩
  rcases hq with hq | hq
  · obtain ⟨its, r', pl, hz⟩ := I.list hq
    have hlen := r'.length
    obtain ⟨o, ho, hc, n, hd⟩ := pl.isList
    exact call_list_seq p (.inl rfl) ho hc hd (fun h' c' kp e => fin its r' hz h' c' kp e) (by simp only [List.size_toArray] <;> omega)
  · obtain ⟨its, r', pl, hz⟩ := I.tuple hq
    have hlen := r'.length
    obtain ⟨o, ho, hc, n, hd⟩ := pl
    exact call_list_seq p (.inr rfl) ho hc hd (fun h' c' kp e => fin its r' hz h' c' kp e) (by simp only [List.size_toArray] <;> omega)
theorem call_tuple_of : CallR X (.type "tuple") (fun xs H Q => ∃ p ys, xs = [.ref p] ∧ ((SqL X.K H p ys ∧ ∀ l, H l = none → Q (.ref l) (upd H l (.tup ys))) ∨ (SqT X.K H p ys ∧ Q (.ref p) H))) := by
  intro pins s σ H xs us Q I r h
  obtain ⟨p, ys, rfl, h⟩ := h
  obtain ⟨u, rfl, rx⟩ := vals1 r
  cases rx
  rcases h with ⟨hq, q⟩ | ⟨hq, q⟩
  · obtain ⟨its, r', pl, hz⟩ := I.list hq
    have hlen := r'.length
    refine call_tuple_list pl.isList (fun h' kp => ?_) (by simp only [List.size_toArray] <;> omega)
    have I1 : Inv X pins σ H { s with heap := h' } := I.kept (t' := s.toks) kp
    have I2 : Inv X pins σ (upd H h'.objs.size (.tup ys)) { s with heap := h'.push { cls := .type "tuple", data := .seq its.toArray } } :=
      I1.laid (t' := s.toks) (fun b o e => Heap.get?_push_of_some _ e) (Nat.le_refl _) (show ObjOk X.prog X.w _ _ _ (.tup ys) from ⟨hz, its, r', IsTup.new _ _⟩)
    exact ⟨.ref h'.objs.size, _, I2, rfl, q _ (I1.hok.fresh (Nat.le_refl _))⟩
  · obtain ⟨its, r', pl, hz⟩ := I.tuple hq
    exact call_tuple_same pl ⟨.ref p, H, I, rfl, q⟩

/-! ### the call of a builtin's method: o.m(..) -/
/-- the value is of that builtin type -/
def tyV (K : PySem.W.Frag) (T : String) (x : V) (H : Hp) : Prop := match x with
  | .str _ => T = "str"
  | .int _ => T = "int"
  | .ref p => (T = "list" ∧ ∃ xs, SqL K H p xs) ∨ (T = "tuple" ∧ ∃ o, K.lookup p = some o ∧ o.cls = .type "tuple" ∧ o.dict = none) ∨
      (T = "dict" ∧ ((∃ kvs, H p = some (.dK kvs)) ∨ ∃ kvs, H p = some (.dT kvs))) ∨ (T = "set" ∧ ∃ S n, H p = some (.set S n))
  | _ => False
theorem tyV_is {pins : List (Addr × Obj)} {σ : St} {H : Hp} {s : Shared} {T : String} {x : V} {v : Value} (I : Inv X pins σ H s) (r : RelV x v) (ty : tyV X.K T x H) :
    s.TypeIs v T ∧ ∀ a, v = .ref a → ∃ ob, s.heap.get? a = some ob ∧ ob.dict = none := by
  cases x with
  | str z =>
    obtain ⟨t, rfl⟩ := r
    cases (show T = "str" from ty)
    exact ⟨typeIs_str s z t, fun _ e => nomatch e⟩
  | int i =>
    obtain ⟨t, rfl⟩ := r
    cases (show T = "int" from ty)
    exact ⟨typeIs_int s i t, fun _ e => nomatch e⟩
  | ref p =>
    cases r
    rcases ty with ⟨rfl, xs, hq⟩ | ⟨rfl, o, hk, hc, hd⟩ | ⟨rfl, hk⟩ | ⟨rfl, S, n, hk⟩
    · obtain ⟨its, _, pl, _⟩ := I.list hq
      refine ⟨pl.isList.typeIs, fun a e => ?_⟩
      cases e
      obtain ⟨o, n, e, c, hd, _⟩ := pl
      exact ⟨o, e, hd⟩
    · refine ⟨⟨o, I.kIn p o hk, hc⟩, fun a e => ?_⟩
      cases e
      exact ⟨o, I.kIn _ o hk, hd⟩
    · have z : ∃ o, s.heap.get? p = some o ∧ o.ExactDict := by
        rcases hk with ⟨kvs, hk⟩ | ⟨kvs, hk⟩
        · obtain ⟨_, _, _, _, o, _, _, e, ex, _⟩ := I.hok p _ hk
          exact ⟨o, e, ex⟩
        · obtain ⟨_, _, _, _, o, _, _, e, ex, _⟩ := I.hok p _ hk
          exact ⟨o, e, ex⟩
      obtain ⟨o, e, ex⟩ := z
      refine ⟨⟨o, e, ex.1⟩, fun a e2 => ?_⟩
      cases e2
      exact ⟨o, e, ex.2.1⟩
    · obtain ⟨o, _, _, _, e, ex, _⟩ := I.hok p _ hk
      refine ⟨⟨o, e, ex.1⟩, fun a e2 => ?_⟩
      cases e2
      exact ⟨o, e, ex.2.1⟩
  | _ => exact False.elim ty
def tBM0 (K : PySem.W.Frag) (T : String) (r : V → List V → Hp → VK → Prop) (to : TE) : TE := fun σ H Q => to σ H fun x H1 => tyV K T x H1 ∧ r x [] H1 Q
def tBM (K : PySem.W.Frag) (T : String) (r : V → List V → Hp → VK → Prop) (to : TE) (t : TA) : TE := fun σ H Q => to σ H fun x H1 => tyV K T x H1 ∧ t σ H1 fun xs H2 => r x xs H2 Q
variable {o e : Expr} {es : List Expr} {to : TE} {t : TA} {name : Str} {apos cpos : Pos} {T id : String} {r : V → List V → Hp → VK → Prop}
theorem pe_bm0 (pa : PlainAttrs T) (slot : Slot T name id) (hty : typeOf (.builtin id) = pure (.type "method_descriptor")) (hm : MtR X id r) (ho : PE X o to)
    (hbase : attributeBase o name X.env (eval o X.env) = eval o X.env := by rfl) (hline : (apos.endLine == cpos.line) = true := by rfl) : PE X (.Call (.Attribute o name apos) [] [] cpos) (tBM0 X.K T r to) := by
  intro pins s σ H Q I h
  refine wpAny_Call_method0_late hbase hline (thn (ho pins s σ H _ I h) fun v s1 ⟨x, H1, I1, r1, ty, q1⟩ => ?_)
  obtain ⟨h1, h2⟩ := tyV_is I1 r1 ty
  exact ⟨T, id, pa, slot, hty, h1, h2, Calls.callWith_builtin rfl (PySem.evalArgs_none (hm pins s1 σ H1 x [] v [] Q I1 r1 .nil q1))⟩
theorem pe_bm (pa : PlainAttrs T) (slot : Slot T name id) (hty : typeOf (.builtin id) = pure (.type "method_descriptor")) (hm : MtR X id r) (ho : PE X o to) (ha : PA X (e :: es) t)
    (hbase : attributeBase o name X.env (eval o X.env) = eval o X.env := by rfl)
    (hfew : ((backTo cpos (starEach (e :: es) X.env)).all (fun x => !x.1) && (backToKw cpos (keywordEach [] X.env)).all (fun x => x.1.isSome)
      && decide ((e :: es).length + ([] : List Keyword).length + (if ([] : List Keyword).isEmpty then 0 else 1) < 30)) = true := by rfl)
    (hline : (apos.endLine == cpos.line) = true := by rfl) (hs : starEach (e :: es) X.env = (false, eval e X.env) :: starEach es X.env := by rfl) (hplain : (backTo cpos (starEach es X.env)).any (·.1) = false := by rfl) :
    PE X (.Call (.Attribute o name apos) (e :: es) [] cpos) (tBM X.K T r to t) := by
  intro pins s σ H Q I h
  refine wpAny_Call_method_late hbase hfew hline rfl (thn (ho pins s σ H _ I h) fun v s1 ⟨x, H1, I1, r1, ty, q1⟩ => ?_)
  obtain ⟨h1, h2⟩ := tyV_is I1 r1 ty
  refine ⟨T, id, pa, slot, hty, h1, h2, ?_⟩
  have hA := ha cpos pins s1 σ H1 _ I1 q1
  rw [hs] at hA ⊢
  refine Calls.callWith_builtin (by show (false || (backTo cpos (starEach es X.env)).any (·.1)) = false; rw [hplain] <;> rfl) (Calls.evalArgs_plain ?_)
  exact thn hA fun us s2 ⟨vs, H2, I2, r2, q2⟩ => hm pins s2 σ H2 x vs v us Q I2 r1 r2 q2
/- xs.append(e), list.index on a module's tuple .. are MtR facts of 06m -/
end
end L2

namespace L2
open PySem PySem.Spec PyProof.Rows

def MtM (X : Cx) (id : String) (r : V → List V → Hp → VK → Prop) : Prop :=
  ∀ (pins : List (Addr × Obj)) (s : Shared) (σ : St) (H : Hp) (x : V) (xs : List V) (v : Value) (us : List Value) (Q : VK), Inv X pins σ H s → RelV x v → Vals xs us → r x xs H Q →
    wpAny (model X.prog X.w) X.A (call (.builtin id) (v :: us)) (EP X pins σ Q) X.xe s

/-! ### lists of values -/
theorem Vals.one : ∀ {x : V} {us : List Value}, Vals [x] us → ∃ u, us = [u] ∧ RelV x u
  | _, _, .cons r .nil => ⟨_, rfl, r⟩
theorem Vals.zero : ∀ {us : List Value}, Vals [] us → us = []
  | _, .nil => rfl
theorem Vals.rep {xs : List V} {us : List Value} (h : Vals xs us) : ∀ k : Nat, Vals (List.replicate k xs).flatten (List.replicate k us).flatten
  | 0 => .nil
  | k + 1 => by
    rw [List.replicate_succ, List.replicate_succ, List.flatten_cons, List.flatten_cons]
    exact Vals.append h (Vals.rep h k)
theorem foldl_rep (its : List Value) : ∀ (k : Nat) (acc : List Value),
    List.foldl (fun x1 x2 => x1 ++ x2) acc.toArray (List.replicate k its.toArray) = (acc ++ (List.replicate k its).flatten).toArray
  | 0, acc => by simp
  | k + 1, acc => by
    have e : acc.toArray ++ its.toArray = (acc ++ its).toArray := by simp
    have e2 : (acc ++ its) ++ (List.replicate k its).flatten = acc ++ (List.replicate (k + 1) its).flatten := by
      rw [List.replicate_succ, List.flatten_cons, List.append_assoc]
    rw [← e2, ← foldl_rep its k (acc ++ its), ← e, List.replicate_succ, List.foldl_cons]

section
variable {X : Cx} {pins : List (Addr × Obj)} {σ : St} {H : Hp} {s : Shared} {l b : Addr} {xs ys zs : List V}

/-! ### the two steps: a tracked list is rewritten, a new list is laid -/
theorem Inv.lset {its its' : List Value} {n : Nat} {f : Array Value → Array Value} {t' : Nat} (I : Inv X pins σ H s) (hH : H l = some (.lst xs))
    (e : s.heap.get? l = some { cls := .type "list", data := .seq its.toArray n }) (hf : f its.toArray = its'.toArray) (hv : Vals ys its') (hz : ys.length ≤ sizeLine) :
    Inv X pins σ (upd H l (.lst ys)) { s with heap := s.heap.update l (Obj.mapSeq f), toks := t' } := by
  have q := PySem.IsL.update e f
  rw [hf] at q
  refine I.write (x := l) (e := l) (by rw [hH]; exact trivial) (.inl rfl) (fun b' u hb hu => (Heap.get?_update_other s.heap (Obj.mapSeq f) (Ne.symm hb)).trans hu) ⟨_, q⟩ ?_
  exact ⟨hz, its', _, hv, q⟩
theorem Inv.lnew {its : List Value} {t' : Nat} (I : Inv X pins σ H s) (hv : Vals ys its) (hz : ys.length ≤ sizeLine) :
    Inv X pins σ (upd H s.heap.objs.size (.lst ys)) { s with heap := s.heap.push { cls := .type "list", data := .seq its.toArray }, toks := t' } :=
  I.laid (fun _ _ q => Heap.get?_push_of_some _ q) (Nat.le_refl _) ⟨hz, its, 0, hv, Heap.get?_push_size _ rfl⟩
theorem Inv.fresh (I : Inv X pins σ H s) : H s.heap.objs.size = none := I.hok.fresh (Nat.le_refl _)
theorem Inv.lstM (I : Inv X pins σ H s) (hH : H l = some (.lst xs)) : xs.length ≤ sizeLine ∧ ∃ (its : List Value) (n : Nat), Vals xs its ∧ xs.length = its.length ∧ s.heap.get? l = some { cls := .type "list", data := .seq its.toArray n } := by
  obtain ⟨z, its, n, r, e⟩ := I.hok l _ hH
  exact ⟨z, its, n, r, r.length, e⟩

theorem notLongL {n : Nat} (h : n ≤ sizeLine) : Builtin.List.listTooLong n = false := by
  unfold Builtin.List.listTooLong
  exact decide_eq_false (by omega)
end

section
variable {X : Cx}

/-! ### methods -/
def rAppend : V → List V → Hp → VK → Prop := fun x vs H Q => ∃ l xs y, x = .ref l ∧ vs = [y] ∧ H l = some (.lst xs) ∧ xs.length < sizeLine ∧ Q .non (upd H l (.lst (xs ++ [y])))
theorem mt_append : MtM X "list.append" rAppend := by
  intro pins s σ H x vs v us Q I rx rv h
  obtain ⟨l, xs, y, rfl, rfl, hH, hz, q⟩ := h
  cases rx
  obtain ⟨u, rfl, ru⟩ := rv.one
  obtain ⟨z, its, n, r, hl, e⟩ := I.lstM hH
  refine call_meets F.slot_list_append ⟨_, e, rfl⟩ F.entry_list_append (F.args_list_append_2 _ _) (PySem.list_append l its.toArray n u (by rw [List.size_toArray]; omega)) ⟨e, ?_⟩
  refine ⟨.non, _, I.lset (its' := its ++ [u]) hH e (by simp) (r.append (.cons ru .nil)) ?_, rfl, q⟩
  rw [List.length_append, List.length_singleton]
  omega

def rExtend : V → List V → Hp → VK → Prop := fun x vs H Q => ∃ l b xs zs, x = .ref l ∧ vs = [.ref b] ∧ H l = some (.lst xs) ∧ H b = some (.lst zs) ∧ xs.length + zs.length ≤ sizeLine ∧ Q .non (upd H l (.lst (xs ++ zs)))
def rPop : V → List V → Hp → VK → Prop := fun x vs H Q => ∃ l xs y, x = .ref l ∧ vs = [] ∧ H l = some (.lst xs) ∧ xs[xs.length - 1]? = some y ∧ Q y (upd H l (.lst xs.dropLast))
def rPopAt : V → List V → Hp → VK → Prop := fun x vs H Q => ∃ l xs i k y, x = .ref l ∧ vs = [.int i] ∧ H l = some (.lst xs) ∧ -(2 ^ 63) ≤ i ∧ i < 2 ^ 63 ∧ seqIndex? i xs.length = some k ∧ xs[k]? = some y ∧ Q y (upd H l (.lst (xs.eraseIdx k)))
def rReverse : V → List V → Hp → VK → Prop := fun x vs H Q => ∃ l xs, x = .ref l ∧ vs = [] ∧ H l = some (.lst xs) ∧ Q .non (upd H l (.lst xs.reverse))
def rClear : V → List V → Hp → VK → Prop := fun x vs H Q => ∃ l xs, x = .ref l ∧ vs = [] ∧ H l = some (.lst xs) ∧ Q .non (upd H l (.lst []))
theorem mt_clear : MtM X "list.clear" rClear := by
  intro pins s σ H x vs v us Q I rx rv h
  obtain ⟨l, xs, rfl, rfl, hH, q⟩ := h
  cases rx
  have hus := rv.zero
  subst hus
  obtain ⟨z, its, n, r, hl, e⟩ := I.lstM hH
  refine call_meets F.slot_list_clear ⟨_, e, rfl⟩ F.entry_list_clear (F.args_list_clear_1 _) (AutoSeq1.list_clear_list_0 l its.toArray n (by rw [List.size_toArray]; omega)) ⟨e, ?_⟩
  exact ⟨.non, _, I.lset (its' := []) (ys := []) hH e rfl .nil (Nat.zero_le _), rfl, q⟩

/-! ### list + list, list += list, list * int -/
def rCat : R2 := fun x y H Q => ∃ l b xs zs, x = .ref l ∧ y = .ref b ∧ H l = some (.lst xs) ∧ H b = some (.lst zs) ∧ xs.length + zs.length ≤ sizeLine ∧ ∀ p, H p = none → Q (.ref p) (upd H p (.lst (xs ++ zs)))
/-- a list times an int (a negative one is nothing) -/
def rRep : R2 := fun x y H Q => ∃ l k xs, x = .ref l ∧ y = .int k ∧ H l = some (.lst xs) ∧ -(2 ^ 63) ≤ k ∧ k < 2 ^ 63 ∧ xs.length * k.toNat ≤ sizeLine ∧
  ∀ p, H p = none → Q (.ref p) (upd H p (.lst (List.replicate k.toNat xs).flatten))
theorem len_rep {α : Type} (xs : List α) (k : Nat) : (List.replicate k xs).flatten.length = k * xs.length := by
  induction k with
  | zero => simp
  | succ k ih => rw [List.replicate_succ, List.flatten_cons, List.length_append, ih, Nat.succ_mul, Nat.add_comm]
theorem op_rep : OpR X (binaryOp .Mult) rRep := by
  intro pins s σ H x y v u Q I rx ry h
  obtain ⟨l, k, xs, rfl, rfl, hH, h1, h2, hz, q⟩ := h
  cases rx
  obtain ⟨t, rfl⟩ := ry
  obtain ⟨z, its, n, r, hl, e⟩ := I.lstM hH
  have hlen : its.toArray.size * k.toNat ≤ sizeLine := by rw [List.size_toArray, ← hl]; exact hz
  have hcap : ¬ its.toArray.size * k.toNat > (2 ^ 63 - 1) / 8 := by
    have : (sizeLine : Nat) ≤ (2 ^ 63 - 1) / 8 := by decide
    omega
  have hfit : ¬ (!Builtin.List.listFitsIndex k) = true := by
    rw [fitsIndex_both h1 h2]
    exact Bool.false_ne_true
  have hlong : ¬ Builtin.List.listTooLong (its.toArray.size * k.toNat) = true := by
    rw [notLongL hlen]
    exact Bool.false_ne_true
  have hnew : List.foldl (fun x1 x2 => x1 ++ x2) #[] (List.replicate (if its.toArray.isEmpty = true then 0 else k.toNat) its.toArray) = (List.replicate k.toNat its).flatten.toArray := by
    have f0 : ∀ m : Nat, List.foldl (fun x1 x2 => x1 ++ x2) #[] (List.replicate m its.toArray) = (List.replicate m its).flatten.toArray := fun m => by
      have := foldl_rep its m []
      rw [List.nil_append] at this
      exact this
    rw [f0]
    cases its with
    | nil => simp
    | cons a r' => rw [if_neg (by simp)]
  refine wpAny_binaryOp_repeat_ref (T := "list") (U := "int") (by decide) ⟨_, e, rfl⟩ (fun s' => typeIs_int s' k t) noFill_list_mul F.fills_int_mul F.slot_int_rmul repeat_list F.slot_int_index.lookup
    (call_meets F.slot_int_rmul (typeIs_int s k t) F.entry_int_rmul (F.args_int_rmul_2 _ _) (int___rmul___int_list k t l its.toArray n)
      ⟨e, rfl, ⟨_, e, rfl⟩, call_meets F.slot_list_mul ⟨_, e, rfl⟩ F.entry_list_mul (F.args_list_mul_2 _ _) (AutoListH.list___mul___list_int_3 l its.toArray n k t hfit hcap hlong) ⟨e, ?_⟩⟩)
  rw [hnew]
  exact ⟨.ref _, _, I.lnew (t' := s.toks) (r.rep k.toNat) (by rw [len_rep, Nat.mul_comm]; exact hz), rfl, q _ I.fresh⟩

/-! ### del xs[i] -/
end

/-! ### xs[a:b] = ys -/
section
variable {prog : Program} {w : World} {A : Around} {E : Value → Shared → Prop} {s : Shared}
end

section
variable {X : Cx}
end
end L2

namespace L2
open PySem PySem.Spec PyProof.Rows

/-! ### lists of pairs as tables -/
section
variable {κ : Type} [DecidableEq κ]
def valV (kvs : List (κ × V)) (k : κ) : Option V := (kvs.find? fun kv => decide (kv.1 = k)).map (·.2)
/-- in its place, or at the end -/
def putK (kvs : List (κ × V)) (k : κ) (v : V) : List (κ × V) :=
  if (kvs.any fun kv => decide (kv.1 = k)) = true then kvs.map (fun kv => if kv.1 = k then (kv.1, v) else kv) else kvs ++ [(k, v)]
def dropK (kvs : List (κ × V)) (k : κ) : List (κ × V) := kvs.filter fun kv => decide (kv.1 ≠ k)

theorem valV_pos {p : κ × V} {r : List (κ × V)} {k : κ} (e : p.1 = k) : valV (p :: r) k = some p.2 := by simp [valV, List.find?_cons, e]
theorem valV_neg {p : κ × V} {r : List (κ × V)} {k : κ} (e : ¬ p.1 = k) : valV (p :: r) k = valV r k := by simp [valV, List.find?_cons, e]
theorem RelO.getD {o : Option V} {u : Option Value} {d : V} {d' : Value} (r : RelO o u) (rd : RelV d d') : RelV (o.getD d) (u.getD d') := by
  cases o with
  | none => cases u with
    | none => exact rd
    | some _ => exact (show False from r).elim
  | some _ => cases u with
    | none => exact (show False from r).elim
    | some _ => exact r

/-- raw tables of the same keys -/
theorem KV.val {kvs : List (κ × V)} {vs : List (κ × Value)} (r : KV kvs vs) (k : κ) : RelO (valV kvs k) (valueAt vs k) := by
  unfold KV at r
  induction r with
  | nil => exact True.intro
  | @cons p q ps qs h t ih =>
    obtain ⟨h1, h2⟩ := h
    by_cases e : p.1 = k
    · have e' : q.1 = k := h1.symm.trans e
      have b : valueAt (q :: qs) k = some q.2 := by simp [valueAt, List.find?_cons, e']
      rw [valV_pos e, b]; exact h2
    · have e' : ¬ q.1 = k := fun z => e (h1.trans z)
      have b : valueAt (q :: qs) k = valueAt qs k := by simp [valueAt, List.find?_cons, e']
      rw [valV_neg e, b]; exact ih
end


/-! ### a tracked dict, its keys ints and texts or tuples of these -/
theorem kV_is {P : Program} {w : World} {k : Key} {u : Value} (r : RelV (kV k) u) : (mixKind P w).is k u = true := by
  cases k with
  | inl i => obtain ⟨t, e⟩ := (show ∃ t, u = Value.int i t from r); subst e; exact mixKind_int P w i t
  | inr x => obtain ⟨t, e⟩ := (show ∃ t, u = Value.str x t from r); subst e; exact mixKind_str P w x t
/-- raw entries of a dict with tuple keys -/
abbrev KT (H : Hp) : List (List Key × V) → List (List Key × Addr × Value) → Prop := Paired fun p q => p.1 = q.1 ∧ H q.2.1 = some (.tup (p.1.map kV)) ∧ RelV p.2 q.2.2
section
variable {P : Program} {w : World} {H : Hp} {h : Heap} {a : Addr}
end

/-- what the dict at a holds at the key y -/
def DGet (H : Hp) (a : Addr) (y : V) (r : Option V) : Prop :=
  (∃ kvs k, Rd H a (.dK kvs) ∧ y = kV k ∧ r = valV kvs k) ∨ ∃ kvs k b, Rd H a (.dT kvs) ∧ y = .ref b ∧ H b = some (.tup (k.map kV)) ∧ r = valV kvs k
/-- the heap behind a[y] = v -/
def DPut (H : Hp) (a : Addr) (y v : V) (H' : Hp) : Prop :=
  (∃ kvs k, H a = some (.dK kvs) ∧ y = kV k ∧ kvs.length < sizeLine ∧ H' = upd H a (.dK (putK kvs k v))) ∨
  ∃ kvs k b, H a = some (.dT kvs) ∧ y = .ref b ∧ H b = some (.tup (k.map kV)) ∧ kvs.length < sizeLine ∧ H' = upd H a (.dT (putK kvs k v))
section
variable {X : Cx} {pins : List (Addr × Obj)} {σ : St} {H : Hp} {s : Shared} {a : Addr} {y v : V} {u r : Value} {o : Option V} {A : Around} {E : Value → Shared → Prop}

end

section
variable {X : Cx} {pins : List (Addr × Obj)} {σ : St} {H : Hp} {s : Shared} {a : Addr} {kvs : List (Key × V)} {k : Key} {u : Value} {A : Around} {E : Value → Shared → Prop}
end


/-! ### readings and rules -/
/-- the element of a subscription, not a slice -/
def NoSl (i : Expr) : Prop := ∀ ov iv, subscripted i false ov iv = operate [ov, iv] (getItem ov iv)
/-- d[y] -/
def tDGet (td ty : TE) : TE := fun σ H Q => td σ H fun x H1 => ty σ H1 fun y H2 => ∃ a v, x = .ref a ∧ DGet H2 a y (some v) ∧ Q v H2
/-- y in d, y not in d -/
def tDIn (ty td : TE) : TE := fun σ H Q => ty σ H fun y H1 => td σ H1 fun x H2 => ∃ a o, x = .ref a ∧ DGet H2 a y o ∧ Q (.bl o.isSome) H2
def tDNotIn (ty td : TE) : TE := fun σ H Q => ty σ H fun y H1 => td σ H1 fun x H2 => ∃ a o, x = .ref a ∧ DGet H2 a y o ∧ Q (.bl (!o.isSome)) H2
/-- d[y] = v -/
def sDPut (td ty tv : TE) : TS := fun D σ H => tv σ H fun v H1 => td σ H1 fun x H2 => ty σ H2 fun y H3 => ∃ a H4, x = .ref a ∧ DPut H3 a y v H4 ∧ D.nx σ H4
/-- d[y] op= v -/
def sDAug (td ty tv : TE) (rd : V → V → Hp → VK → Prop) : TS := fun D σ H => td σ H fun x H1 => ty σ H1 fun y H2 => ∃ a v, x = .ref a ∧ DGet H2 a y (some v) ∧
  tv σ H2 fun y2 H3 => rd v y2 H3 fun z H4 => ∃ H5, DPut H4 a y z H5 ∧ D.nx σ H5
/-- del d[y] -/
def sDDel (td ty : TE) : TS := fun D σ H => td σ H fun x H1 => ty σ H1 fun y H2 => ∃ a kvs k, x = .ref a ∧ H2 a = some (.dK kvs) ∧ y = kV k ∧ (valV kvs k).isSome = true ∧ D.nx σ (upd H2 a (.dK (dropK kvs k)))

section
variable {X : Cx} {o i e value : Expr} {pos pos' tpos : Pos} {td ty tv : TE}
end


/-! ### displays -/
/-- {}, to be a dict of the kind that is wanted -/
def tDNewK : TE := fun _ H Q => ∀ p, H p = none → Q (.ref p) (upd H p (.dK []))
def tDNewT : TE := fun _ H Q => ∀ p, H p = none → Q (.ref p) (upd H p (.dT []))
section
variable {X : Cx} {pos : Pos}
end

/-- the pairs of a display, from the left -/
def tPairs : List (TE × TE) → St → Hp → (List (V × V) → Hp → Prop) → Prop
  | [], _, H, Q => Q [] H
  | (tk, tv) :: r, σ, H, Q => tk σ H fun x H1 => tv σ H1 fun y H2 => tPairs r σ H2 fun ps H3 => Q ((x, y) :: ps) H3
abbrev VV : List (V × V) → List (Value × Value) → Prop := Paired fun p q => RelV p.1 q.1 ∧ RelV p.2 q.2
def PPs (X : Cx) (pos : Pos) (keys : List (Option Expr)) (values : List Expr) (trs : List (TE × TE)) : Prop :=
  ∀ (pins : List (Addr × Obj)) (s : Shared) (σ : St) (H : Hp) (Q : List (V × V) → Hp → Prop), Inv X pins σ H s → tPairs trs σ H Q →
    wpAny (model X.prog X.w) X.A (evalPairs (pairTrees keys values X.env pos)) (fun vs s' => ∃ ps H', Inv X pins σ H' s' ∧ VV ps vs ∧ Q ps H') X.xe s
def mergeK (kvs more : List (Key × V)) : List (Key × V) := more.foldl (fun acc kv => putK acc kv.1 kv.2) kvs
/-- {k: v, ..} with keys ints and texts; the new dict stands empty while the pairs are made -/
def tDisp (trs : List (TE × TE)) : TE := fun σ H Q => ∀ p, H p = none → tPairs trs σ (upd H p (.dK [])) fun ps H2 => H2 p = some (.dK []) ∧ ∃ kvs : List (Key × V), ps = kvs.map (fun kv => (kV kv.1, kv.2)) ∧ kvs.length ≤ 15 ∧ Q (.ref p) (upd H2 p (.dK (mergeK [] kvs)))
/-! ### methods -/
/-- a method call o.m(e) of a built-in, with one argument: what must be seen of the text -/
structure M1 (X : Cx) (o : Expr) (m : Str) (apos : Pos) (e : Expr) (cpos : Pos) : Prop where
  base : attributeBase o m X.env (eval o X.env) = eval o X.env
  few : ((backTo cpos (starEach [e] X.env)).all (fun x => !x.1) && (backToKw cpos (keywordEach [] X.env)).all (fun x => x.1.isSome)
    && decide (([e] : List Expr).length + ([] : List Keyword).length + (if ([] : List Keyword).isEmpty then 0 else 1) < 30)) = true
  line : (apos.endLine == cpos.line) = true
  trees : backTo cpos (starEach [e] X.env) = [(false, eval e X.env)]
structure M2 (X : Cx) (o : Expr) (m : Str) (apos : Pos) (e f : Expr) (cpos : Pos) : Prop where
  base : attributeBase o m X.env (eval o X.env) = eval o X.env
  few : ((backTo cpos (starEach [e, f] X.env)).all (fun x => !x.1) && (backToKw cpos (keywordEach [] X.env)).all (fun x => x.1.isSome)
    && decide (([e, f] : List Expr).length + ([] : List Keyword).length + (if ([] : List Keyword).isEmpty then 0 else 1) < 30)) = true
  line : (apos.endLine == cpos.line) = true
  trees : backTo cpos (starEach [e, f] X.env) = [(false, eval e X.env), (false, eval f X.env)]

/-- a is a dict, whatever its keys -/
def IsD (H : Hp) (a : Addr) : Prop := (∃ kvs, Rd H a (.dK kvs)) ∨ ∃ kvs, Rd H a (.dT kvs)
section
variable {X : Cx} {pins : List (Addr × Obj)} {σ : St} {H : Hp} {s : Shared} {a : Addr} {y d : V} {u r : Value} {o : Option V} {A : Around} {E : Value → Shared → Prop}
end

def tDGet1 (td ty : TE) : TE := fun σ H Q => td σ H fun x H1 => ∃ a, x = .ref a ∧ IsD H1 a ∧ ty σ H1 fun y H2 => ∃ o, DGet H2 a y o ∧ Q (o.getD .non) H2
def tDGet2 (td ty tx : TE) : TE := fun σ H Q => td σ H fun x H1 => ∃ a, x = .ref a ∧ IsD H1 a ∧ ty σ H1 fun y H2 => tx σ H2 fun z H3 => ∃ o, DGet H3 a y o ∧ Q (o.getD z) H3
/-- d.pop(k): there; d.pop(k, x): there or not -/
def tDPop1 (td ty : TE) : TE := fun σ H Q => td σ H fun x H1 => ∃ a, x = .ref a ∧ IsD H1 a ∧ ty σ H1 fun y H2 => ∃ kvs k v, H2 a = some (.dK kvs) ∧ y = kV k ∧ valV kvs k = some v ∧ Q v (upd H2 a (.dK (dropK kvs k)))
def tDPop2 (td ty tx : TE) : TE := fun σ H Q => td σ H fun x H1 => ∃ a, x = .ref a ∧ IsD H1 a ∧ ty σ H1 fun y H2 => tx σ H2 fun z H3 => ∃ kvs k, H3 a = some (.dK kvs) ∧ y = kV k ∧
  (∀ v, valV kvs k = some v → Q v (upd H3 a (.dK (dropK kvs k)))) ∧ (valV kvs k = none → Q z H3)
section
variable {X : Cx} {o e f : Expr} {apos cpos : Pos} {td ty tx : TE}
end

/-! ### dict(d): a copy -/
section
variable {X : Cx} {pins : List (Addr × Obj)} {σ : St} {H : Hp} {s : Shared} {a : Addr} {kvs : List (Key × V)} {A : Around} {E : Value → Shared → Prop}
end


section
variable {X : Cx} {pins : List (Addr × Obj)} {σ : St} {H : Hp} {s : Shared} {a : Addr} {y : V} {u : Value} {A : Around} {E : Value → Shared → Prop}
end
end L2

namespace Att
open PySem PySem.W PySem.Calls PyProof.Rows

/-! ### the script -/
theorem ints_of_wellAll {P : Params} {h : Heap} : ∀ (ns : List Int) (vs : List Value), WellAll P h vs (ns.map WData.int) → IntsAre vs ns := by
  intro ns
  induction ns with
  | nil =>
    intro vs w
    rw [List.map_nil] at w
    cases w
    exact .nil
  | cons n ns ih =>
    intro vs w
    rw [List.map_cons] at w
    cases w with
    | cons a b =>
      cases a
      exact .cons _ _ (ih _ b)

theorem script_of {l : OpenLaw} {n : Nat} (hn : l.most = some n) {P : Params} {h : Heap} {args : List WData} {vals : List Value}
    (hpre : l.row.toRowW.claim.pre args = true) (hwl : WellAll P h vals args) :
    ∃ a vs ns, vals = [Value.ref a] ∧ args = [WData.list (ns.map WData.int)] ∧ h.get? a = some { cls := .type "list", data := .seq vs.toArray } ∧ IntsAre vs ns ∧ ns.length ≤ n := by
  have hsh : WShape.hasAll [] args [.list .int] = true := (pre_splitW hpre).1
  have hc : l.pre.holds [] { args := args } = true := (pre_splitW hpre).2
  obtain ⟨d, r, rfl, h1, h2⟩ := hasAllW_cons hsh
  obtain rfl := hasAllW_nil h2
  obtain ⟨xs, rfl, h3⟩ := hasW_list h1
  obtain ⟨ns, rfl⟩ := items_int h3
  have hlen : ns.length ≤ n := by
    unfold OpenLaw.pre at hc
    have h4 : (WTm.not (.lt (.lit (.int (n : Int))) (.len (.arg 0)))).holds [] { args := [.list (ns.map .int)] } = true := by
      have h4 := (holds_andW hc).1
      rw [hn] at h4
      exact h4
    have h5 := condW_of h4 (w_not (w_lt w_lit (w_len_list (w_arg rfl))))
    rw [List.length_map] at h5
    refine Nat.le_of_not_lt fun q => ?_
    have q' : (n : Int) < ((ns.length : Nat) : Int) := by omega
    first
      | (rw [decide_eq_true q'] at h5; exact absurd h5 (by decide))
      | (simp at h5; omega)
  cases hwl with
  | cons w1 w2 =>
    cases w2
    cases w1 with
    | list ho hall => exact ⟨_, _, ns, rfl, rfl, ho, ints_of_wellAll ns _ hall, hlen⟩

theorem post_true (l : OpenLaw) (args : List WData) : l.row.toRowW.claim.post args (.bool true) args = true :=
  postW_of (r := l.row.toRowW) (X := (true == true))
    (show WShape.has [] (.bool true) .bool = true by first | rfl | decide | simp [WShape.has, WShape.arms, WShape.armsAll])
    (show (WTm.eq .res (.lit (.bool true))).value [] { args := args, res := some (.bool true), after := args } = some (.bool (true == true)) from w_eq_bool (w_res rfl) w_lit) rfl

/-! ### the attachment: holds_open's last premise (the goal 'hc' behind k_head) from a wpAny of the law's body -/
/-! ### rules over ANY heap (no ledger) from facts about the written part K: the library's own take a ledger (News) for what they write -/
section
variable {prog : Program} {w : World} {A : Around} {E : Value → Shared → Prop} {s : Shared} {K : Frag}

/-! the whole heap as the ledger: makes every rule that writes through a ledger a rule over any heap -/
def noObjs (h : Heap) : Heap := { h with objs := #[] }
def ledger (h : Heap) (L d : Addr) : List (Addr × Obj) := (List.range h.objs.size).filterMap fun a => if a = L ∨ a = d then none else (h.get? a).map fun o => (a, o)
end
end Att

namespace L2
open PySem PySem.Spec PyProof.Rows

theorem vals_ints : ∀ {vs : List Value} {ns : List Int}, IntsAre vs ns → Vals (ns.map V.int) vs
  | _, _, .nil => .nil
  | _, _, .cons n t h => .cons ⟨t, rfl⟩ (vals_ints h)

/-- nothing is tracked but the script, known to the object (or it is an object of the module) -/
def Only (H : Hp) : Prop := ∀ b, H b = none ∨ ∃ o xs, H b = some (.frz o (.lst xs))

/-- THE HEAD: the law's promise, at the heap behind the top. F, the promise of the law's def, may use that base is part of the heap (so K.In base, base.Ns mainGlobals mg stand in Mod) -/
theorem law_call {P : Program} {w : World} {K : PySem.W.Frag} {mg mb : Str → Option Value} {CX : CXT} {k : Nat} {fa a : Addr} {fd : FuncData} {x : Str} {sp : Sp} {s₁ : Shared} {vs : List Value} {ns : List Int}
    (KX : K.In s₁.heap) (hns : s₁.heap.Ns mainGlobals mg) (hb : s₁.heap.Ns builtinsNs mb) (hbb : ∀ x : Str, x ≠ "__name__" → mb x = bootBuiltins x) (hlim : s₁.heap.NoLimit) (hg : s₁.gens = #[])
    (ha : s₁.heap.get? a = some { cls := .type "list", data := .seq vs.toArray }) (hi : IntsAre vs ns) (hl : ns.length ≤ sizeLine) (hr : Room k callerA)
    (F : ∀ base : Heap, K.In base → base.Ns mainGlobals mg → FnOk P w K mg base CX k fa fd [x] sp) (hbind : ∀ (s : Shared) (u : Value), BindsTo s fd ⟨[u], []⟩ [(x, u)])
    (hsp : ∀ H : Hp, Only H → SqL K H a (ns.map V.int) → sp [.ref a] H (fun v _ => v = .bl true) fun _ _ _ => False)
    (hCX : ∀ H e s', CX [] H s₁ (fun _ _ _ => False) e s' → False) :
    codeAny (model P w) callerA (.call (.ref fa) ⟨[.ref a], []⟩) (fun r s' => r = .ok (.ret (.bool true)) ∧ OldK s₁.heap s'.heap ∧ s'.os = s₁.os ∧ AllBare s'.gens) s₁ := by
  have rv := vals_ints hi
  have lenV := hi.length
  -- from an abstract heap in which nothing but the script may be tracked
  have core : ∀ H : Hp, Only H → SqL K H a (ns.map V.int) → HOk P w H s₁.heap → (∀ b, H b ≠ none → b = a) → (H a ≠ none → K.lookup a = none) →
      codeAny (model P w) callerA (.call (.ref fa) ⟨[.ref a], []⟩) (fun r s' => r = .ok (.ret (.bool true)) ∧ OldK s₁.heap s'.heap ∧ s'.os = s₁.os ∧ AllBare s'.gens) s₁ := by
    intro H hO hS hok hA hK
    have base_of : ∀ {b : Addr} {o : Obj}, s₁.heap.get? b = some o → H b = none → (hidT s₁.heap H).get? b = some o := fun e n => hidT_get e n
    have noA : ∀ {b : Addr} {o : Obj} {es : Array DictEntry} {ep : Nat}, s₁.heap.get? b = some o → o.data = .dict es ep → H b = none := fun {b o es ep} e d => by
      cases q : H b with
      | none => rfl
      | some u =>
        have e' : b = a := hA b (by rw [q]; simp)
        subst e'
        rw [ha] at e; cases e
        have d' : Data.seq vs.toArray _ = Data.dict es ep := d
        cases d'
    have nsK : ∀ {b : Addr} {m : Str → Option Value}, s₁.heap.Ns b m → (hidT s₁.heap H).Ns b m := fun {b m} ⟨o, es, ep, e, d, r⟩ => ⟨o, es, ep, base_of e (noA e d), d, r⟩
    have hKb : K.In (hidT s₁.heap H) := fun b o e => base_of (KX b o e) (by
      cases q : H b with
      | none => rfl
      | some u =>
        have e' : b = a := hA b (by rw [q]; simp)
        subst e'
        rw [hK (by rw [q]; simp)] at e; cases e)
    have hM : Mod K mg (hidT s₁.heap H) := ⟨hKb, nsK hns, ⟨mb, nsK hb, hbb⟩, let ⟨mc, h1, h2⟩ := hlim; ⟨mc, nsK h1, h2⟩⟩
    have e0 : Env0 P w K mg (hidT s₁.heap H) callerA [] s₁ H := ⟨rfl, hM, fun b o e => of_hidT e, Nat.le_of_eq (hidT_size _ _), trivial, fun b hb => absurd (show b ∈ ([] : List Addr) from hb) (by simp), hok, .of_eq hg⟩
    refine codeAny_mono ((F _ hKb (nsK hns)).run callerA [] s₁ H ⟨[.ref a], []⟩ [.ref a] [.ref a] _ _ hr e0 (hbind s₁ (.ref a)) (.cons rfl .nil) (hsp H hO hS)) fun r s' h => ?_
    cases r with
    | error e => exact (hCX H e s' h).elim
    | ok fl =>
      cases fl with
      | next => exact False.elim h
      | brk => exact False.elim h
      | cont => exact False.elim h
      | ret u =>
        obtain ⟨v, H', os, bare, un, hok', r', q⟩ := h
        have q' : v = .bl true := q
        subst q'
        obtain rfl : u = Value.bool true := r'
        refine ⟨rfl, OldK.of_keep fun b o e => ?_, os, bare⟩
        cases q : H b with
        | none => exact un.keep b o e q (by intro z; exact absurd (show b ∈ ([] : List Addr) from z) (by simp)) (by simp)
        | some u =>
          rcases hO b with z | ⟨ob, xs, z⟩
          · rw [q] at z; cases z
          · have z2 := un.frzs b ob _ z
            obtain ⟨e1, _⟩ := hok b _ z
            obtain ⟨e2, _⟩ := hok' b _ z2
            rw [e] at e1; cases e1
            exact e2
  cases hk : K.lookup a with
  | some o =>
    -- the script is one of the module's own objects
    have e := KX a o hk
    rw [ha] at e
    cases e
    refine core (fun _ => none) (fun _ => .inl rfl) (.inr ⟨_, vs.toArray, _, hk, rfl, rfl, rfl, by rw [List.size_toArray, lenV]; exact hl, by simpa using rv⟩) (fun b u z => by have z' : (none : Option HO) = some u := z; cases z') (fun b z => absurd rfl z) fun z => absurd rfl z
  | none =>
    refine core (fun b => if b = a then some (.frz { cls := .type "list", data := .seq vs.toArray } (.lst (ns.map V.int))) else none) (fun b => ?_) (.inl (.inr ⟨{ cls := .type "list", data := .seq vs.toArray }, if_pos rfl⟩)) (fun b u z => ?_) (fun b z => ?_) fun _ => hk
    · by_cases hb : b = a
      · exact .inr ⟨_, _, if_pos hb⟩
      · exact .inl (if_neg hb)
    · by_cases hb : b = a
      · have z' := (if_pos hb).symm.trans z
        cases z'
        subst hb
        exact ⟨ha, by rw [List.length_map]; exact hl, vs, _, rv, ha⟩
      · have z' := (if_neg hb).symm.trans z
        cases z'
    · by_cases hb : b = a
      · exact hb
      · exact absurd (if_neg hb) z
end L2

namespace L2
open PySem PySem.Spec PyProof.Rows

abbrev KOf {K : PySem.W.Frag} {h : Heap} (_ : K.In h) : PySem.W.Frag := K

end L2

/- THE LAST THEOREM (shape; LID, My.* are yours):
   My.Adr: a structure of the addresses that your layer names (classes, functions); My.Txt K t: a structure (Prop) of the equations over K;
   My.txt_mk : {K} {implicit addresses ..} (e1 : nsIn K mainGlobals "law" = some (some (.ref f))) (e2 : K.lookup f = some ⟨oc, od, .func (fnOf "law" "law" params body scope dV kV doc pm an cdv ct), sl⟩) (e3 : codeIn K cdv "law" = true) .. : ∃ t, My.Txt K t

set_option maxRecDepth 100000 in
set_option maxHeartbeats 0 in
theorem PySem.Challenge.cw_LID_holds : PySem.Challenge.rw_LID.Holds := by
  w_on; o_law; k_head; (case hw => w_witness2)
  k_fill
  refine L2.walk_of (l := PySem.Challenge.rw_LID) (n := 63) (k := 40) (x := "script") (CX := fun w => ..) (sp := fun _ => My.sp_law) rfl (by decide) rfl ⟨rfl, by decide, by decide⟩ (fun w h Y => PySem.W.kIn_of Y) ?F ?S ?C
  case F =>
    intro w mg fa h KX G hmg
    have T : ∃ t, My.Txt (L2.KOf KX) t := by
      dsimp only [L2.KOf]                          -- K must stand as «<heap const> w.params» for k_is
      refine' My.txt_mk ?e1 ?e2 ?e3 ..
      (case e1 => PySem.W.k_is)                    -- in the order: a name -> its address -> its object -> its parts
      (case e2 => PySem.W.k_is)
      ..
    obtain ⟨t, T⟩ := T
    have e0 := hmg.symm.trans (PySem.W.mg_of KX G T.law)
    cases e0                                       -- fa is the law's own address
    exact ⟨_, fun s u => .of_eq rfl, fun base kb nb => My.law_fn T kb nb⟩     -- if «.of_eq rfl» comes too early: refine' ⟨_, ?b, fun base kb nb => My.law_fn T kb nb⟩; exact fun s u => .of_eq rfl
  case S => exact fun w H a ns hl hO hS => ..
  case C => exact ..
(the tactic k_is has no namespace: write k_is) -/

/-! SHORT WORDS over the layer: a def of the text, its body, what a loop and a test want. -/
namespace L2
open PySem PySem.Spec PyProof.Rows

/-! ### the text by places -/
/-- the j-th statement of a class's body -/
def inClass (s : Stmt) (j : Nat) : Stmt := match s with
  | .ClassDef _ _ _ body _ _ _ _ _ _ _ => body.getD j (.Pass ⟨0, 0, 0, 0⟩)
  | _ => .Pass ⟨0, 0, 0, 0⟩
def defArgs (s : Stmt) : Arguments := match s with
  | .FunctionDef _ a _ _ _ _ _ _ _ _ => a
  | _ => { posonlyargs := [], args := [], vararg := none, kwonlyargs := [], kw_defaults := [], kwarg := none, defaults := [] }
def defBody (s : Stmt) : List Stmt := match s with
  | .FunctionDef _ _ b _ _ _ _ _ _ _ => b
  | _ => []
def defScope (s : Stmt) : Scope := match s with
  | .FunctionDef _ _ _ _ _ _ sc _ _ _ => sc
  | _ => { kind := .function, names := [], isGenerator := false, isCoroutine := false }

/-! ### no exception leaves a def -/
abbrev CX0 : CXT := fun _ _ _ _ _ _ => False
abbrev E0 : XK := fun _ _ _ => False
theorem pass0 {X : Cx} : Passes CX0 X E0 := fun _ _ _ _ _ _ _ h => h.elim

/-! ### a def (or method) of the text as it stands behind the top -/
structure Fun (K : PySem.W.Frag) (x qual : Str) (st : Stmt) (f : Addr) (fd : FuncData) : Prop where
  ex : ∃ (oc : Value) (od : Option Addr) (kV doc pm : Value) (an : Option Addr) (cdv ct : Value) (osl : Array (Option Value)),
    fd = PySem.W.fnOf x qual (defArgs st) (defBody st) (defScope st) .none kV doc pm an cdv ct ∧ K.lookup f = some ⟨oc, od, .func fd, osl⟩ ∧ PySem.W.codeIn K cdv qual = true
  kp : PySem.W.keepIn K (.ref f) = true
section
variable {P : Program} {w : World} {K : PySem.W.Frag} {mg : Str → Option Value} {base : Heap}
/-- THE RULE for a def: its body as a term of rules, and the reading of that term -/
theorem Fun.ok {x qual : Str} {st : Stmt} {f : Addr} {fd : FuncData} {N ps : List Str} {k : Nat} {sp : Sp} (F : Fun K x qual st f fd) (S : FnScope N ps (defScope st)) (len : ∀ vs H Q E, sp vs H Q E → vs.length = ps.length)
    (hbody : ∀ (cdv : Value) (A : Around) (outer : List Env) (s : Shared) (H : Hp) (vs : List V) (Q : VK) (E : XK), Room k (A.deeper (envOfC qual (defScope st) s.heap.objs.size f cdv)) → sp vs H Q E →
      ∃ t, PSs (cxOf CX0 P w K mg base N qual (defScope st) f cdv A outer s H E).nox (defBody st) t ∧ t { nx := fun _ H' => Q .non H', rt := Q } (start N vs) H) : FnOk P w K mg base CX0 (k + 1) f fd ps sp := by
  obtain ⟨oc, od, kV, doc, pm, an, cdv, ct, osl, rfl, lk, hcd⟩ := F.ex
  refine fn_of lk hcd S len fun A outer s H vs Q E hr hsp => ?_
  obtain ⟨t, h, q⟩ := hbody cdv A outer s H vs Q E hr hsp
  exact ⟨t, h.nox, q⟩
/-- how its arguments bind (no defaults): h is «fun _ _ _ _ _ _ us hl => match us, hl with | [_, _], _ => rfl», one _ a parameter -/
theorem Fun.binds {x qual : Str} {st : Stmt} {f : Addr} {fd : FuncData} {ps : List Str} (F : Fun K x qual st f fd)
    (h : ∀ (kV doc pm : Value) (an : Option Addr) (cdv ct : Value) (us : List Value), us.length = ps.length → bindArgs (PySem.W.fnOf x qual (defArgs st) (defBody st) (defScope st) .none kV doc pm an cdv ct) ⟨us, []⟩ = pure (ps.zip us)) : Binds K fd ps [] := by
  obtain ⟨oc, od, kV, doc, pm, an, cdv, ct, osl, rfl, lk, hcd⟩ := F.ex
  exact .all (h kV doc pm an cdv ct)
theorem fun_mk {x qual : Str} {st : Stmt} {f : Addr} {oc : Value} {od an : Option Addr} {osl : Array (Option Value)} {kV doc pm cdv ct : Value} (l : K.lookup f = some ⟨oc, od, .func (PySem.W.fnOf x qual (defArgs st) (defBody st) (defScope st) .none kV doc pm an cdv ct), osl⟩)
    (c : PySem.W.codeIn K cdv qual = true) (k : PySem.W.keepIn K (.ref f) = true) : Fun K x qual st f (PySem.W.fnOf x qual (defArgs st) (defBody st) (defScope st) .none kV doc pm an cdv ct) := ⟨⟨oc, od, kV, doc, pm, an, cdv, ct, osl, rfl, l, c⟩, k⟩
end
theorem hu_of {A : Around} {k : Nat} (hr : Room k A) : A.units + 1 < cLine := Nat.lt_of_le_of_lt (Nat.add_le_add_left (by decide : 1 ≤ 64) _) hr.units
/-! ### expressions in short: the name that stands in the i-th slot -/
section
variable {X : Cx}
theorem pv (i : Nat) {x : Str} {pos : Pos} (hN : X.N[i]? = some x := by rfl) (hv : Vis X.env.scope x := by first | exact Or.inl rfl | exact Or.inr (Or.inl rfl) | exact Or.inr (Or.inr rfl)) (hd : (x == ("__debug__" : Str)) = false := by decide)
    (hcd : (x == ("__classdict__" : Str)) = false := by decide) : PE X (.Name x pos) (tVar i) := pe_var hN hv hd hcd
end

/-! ### tests -/
theorem iteF {A B : Prop} (h : B) : if false = true then A else B := by
  rw [if_neg Bool.false_ne_true]
  exact h
theorem iteT {A B : Prop} (h : A) : if true = true then A else B := by
  rw [if_pos rfl]
  exact h
theorem ite2 {c A B : Prop} [Decidable c] (h1 : c → A) (h2 : ¬ c → B) : if c then A else B := by
  by_cases h : c
  · rw [if_pos h]
    exact h1 h
  · rw [if_neg h]
    exact h2 h
theorem iteNS {c A B : Prop} [Decidable c] (hc : c) (h : B) : if (!decide c) = true then A else B := by
  rw [decide_eq_true hc]
  exact iteF h

/-! ### heaps -/
/-- all that was tracked is as it was -/
def Same (H H' : Hp) : Prop := ∀ b o, H b = some o → H' b = some o
theorem Same.refl (H : Hp) : Same H H := fun _ _ h => h
theorem Same.trans {H H1 H2 : Hp} (a : Same H H1) (b : Same H1 H2) : Same H H2 := fun c o h => b c o (a c o h)
theorem Same.seq {K : PySem.W.Frag} {H H' : Hp} {a : Addr} {xs : List V} (e : Same H H') (h : SqL K H a xs) : SqL K H' a xs := by
  rcases h with (h | ⟨o, h⟩) | h
  · exact .inl (.inl (e _ _ h))
  · exact .inl (.inr ⟨o, e _ _ h⟩)
  · exact .inr h

end L2


namespace L2
open PySem PySem.Spec PyProof.Rows
section
variable {X : Cx}
end
section
variable {κ : Type} [DecidableEq κ]
end
end L2

end

section
set_option Elab.async false
set_option linter.all false
set_option maxRecDepth 100000
set_option maxHeartbeats 4000000
namespace L2
open PySem PySem.Spec PyProof.Rows

/-! ### comprehensions -/
theorem loop_go {prog : Program} {w : World} {A : Around} {R : Result → Shared → Prop} {s : Shared} {elt target iter : Expr} {ifs : List Expr} {scope : Scope} {pos : Pos} {it acc : Value} {env : Env} (I : Nat → Shared → Prop)
    (turn : ∀ n s, I n s → wpAny (model prog w) A (pyNext it) (fun r s1 => match r with
      | none => R (.ok .next) s1
      | some v => wpAny (model prog w) A (letOwnedTupleGo target it v) (fun _ s2 => wpAny (model prog w) A (assign target env v) (fun _ s3 =>
          wpAny (model prog w) A (forIn ifs true fun c r => if r = true then do let ok ← isTrue c env (eval c env); pure (ForInStep.yield ok) else pure (ForInStep.yield r)) (fun ok s4 =>
            if ok = true then wpAny (model prog w) A (eval elt env) (fun x s5 =>
              wpAny (model prog w) A (call (.builtin "list.append") [acc, x]) (fun _ s6 => ∃ m, m < n ∧ I m s6) (fun _ _ => False) s5) (fun _ _ => False) s4
            else ∃ m, m < n ∧ I m s4) (fun _ _ => False) s3) (fun _ _ => False) s2) (fun _ _ => False) s1) (fun _ _ => False) s)
    (n : Nat) (h : I n s) :
    codeAny (model prog w) A (.compLoop (.ListComp elt [⟨target, iter, ifs, 0⟩] scope pos) 0 it acc env) R s := by
  refine codeAny_loop rfl I (fun n s hI => ?_) n h
  show wpAny _ A ((compTurn (.ListComp elt [⟨target, iter, ifs, 0⟩] scope pos) 0 it acc env).onRaise (fun x => do noteFrame x env; theTreesLotGoes x)) _ _ s
  refine wpAny_noted ?_
  rw [compTurn_list]
  refine wpAny_bind (wpAny_standAt (wpAny_bind (wpAny_mono (turn n s hI) (fun r s1 h1 => ?_) fun _ _ h' => h'.elim)))
  cases r with
  | none => exact wpAny_pure h1
  | some v =>
    refine wpAny_bind (wpAny_mono h1 (fun _ s2 h2 => ?_) fun _ _ h' => h'.elim)
    refine wpAny_bind (wpAny_mono h2 (fun _ s3 h3 => wpAny_bind (wpAny_mono h3 (fun ok s4 h4 => ?_) fun _ _ h' => h'.elim)) fun _ _ h' => h'.elim)
    cases ok with
    | false => exact wpAny_pure ⟨rfl, h4⟩
    | true =>
      exact wpAny_bind (wpAny_bind (wpAny_mono h4 (fun x s5 h5 => wpAny_bind (wpAny_mono h5 (fun _ s6 h6 => wpAny_pure (wpAny_pure ⟨rfl, h6⟩)) fun _ _ h' => h'.elim)) fun _ _ h' => h'.elim))

/-- the tests of a comprehension -/
def PF (X : Cx) (ifs : List Expr) (t : TT) : Prop :=
  ∀ (pins : List (Addr × Obj)) (s : Shared) (σ : St) (H : Hp) (Q : Bool → Hp → Prop), Inv X pins σ H s → t σ H Q →
    wpAny (model X.prog X.w) X.A (forIn ifs true fun c r => if r = true then do let ok ← isTrue c X.env (eval c X.env); pure (ForInStep.yield ok) else pure (ForInStep.yield r)) (TP X pins σ Q) X.xe s
def tYes : TT := fun _ H Q => Q true H
theorem pf_nil {X : Cx} : PF X [] tYes := fun pins s σ H Q I h => wpAny_tests_nil ⟨H, I, h⟩
/-- the inner context -/
def cxC (X : Cx) (Nc : List Str) (scope : Scope) (cl : List (Str × Addr)) (C : Addr) (fp : List Addr) (s2 : Shared) (H2 : Hp) : Cx where
  prog := X.prog
  w := X.w
  K := X.K
  mg := X.mg
  base := X.base
  A := X.A
  N := Nc
  s₀ := s2
  H₀ := H2
  env := compEnvC scope cl C X.env
  outer := X.stack
  stack := X.stack
  ex := fp
  fn := fun _ => false
  calm := X.calm
  pn := []
  xe := fun _ _ => False

def cstart (src : List (Option Nat)) (σ : St) : St := src.map fun o => match o with
  | none => none
  | some i => (σ[i]?).getD none

/-- the facts about the names: each is seen by computation -/
structure CompOk (N : List Str) (osc : Scope) (Nc : List Str) (src : List (Option Nat)) (scope : Scope) : Prop where
  kind : scope.kind = .function
  nocell : ∀ x ∈ scope.names, x.2 ≠ .cell
  nodup : scope.names.Pairwise fun x y => x.1 ≠ y.1
  free : ∀ x ∈ scope.names, x.2 = .free → osc.names.lookup x.1 = some .cell ∨ osc.names.lookup x.1 = some .free
  len : src.length = Nc.length
  src : ∀ (j i : Nat), src[j]? = some (some i) → ∃ x, Nc[j]? = some x ∧ N[i]? = some x ∧ scope.names.lookup x = some .free

theorem lookup_mem {α : Type} {l : List (Str × α)} {x : Str} {k : α} (h : l.lookup x = some k) : (x, k) ∈ l := by
  induction l with
  | nil => cases h
  | cons p r ih =>
    obtain ⟨y, j⟩ := p
    rw [List.lookup_cons] at h
    split at h
    · rename_i hb
      have e := eq_of_beq hb
      cases h; subst e; exact List.mem_cons_self
    · exact List.mem_cons_of_mem _ (ih h)
theorem lookup_of_mem {α : Type} {l : List (Str × α)} (nd : l.Pairwise fun x y => x.1 ≠ y.1) {x : Str} {k : α} (h : (x, k) ∈ l) : l.lookup x = some k := by
  induction l with
  | nil => cases h
  | cons p r ih =>
    obtain ⟨y, j⟩ := p
    rw [List.pairwise_cons] at nd
    rw [List.lookup_cons]
    rcases List.mem_cons.mp h with e | h
    · cases e; simp
    · have ne := nd.1 _ h
      have : (x == y) = false := beq_eq_false_iff_ne.mpr (Ne.symm ne)
      rw [this]; exact ih nd.2 h

/-- the closure of a comprehension -/
theorem closure_ok {X : Cx} (ok : X.Ok) {scope : Scope} : ∀ (names : List (Str × NameKind)) (acc : List (Str × Addr)), (∀ x ∈ names, x.2 = .free → ∃ c, X.env.cells.lookup x.1 = some c) →
    (∀ x c, (x, c) ∈ acc → X.env.cells.lookup x = some c) →
    ∃ cl, (forIn names acc (fun (p : Str × NameKind) (cs : List (Str × Addr)) => (do
      if p.2 == NameKind.free then
        let c ← cellOf X.env p.1
        pure (ForInStep.yield ((p.1, c) :: cs))
      else pure (ForInStep.yield cs) : Sem (ForInStep (List (Str × Addr)))))) = pure cl ∧ (∀ x c, (x, c) ∈ cl → X.env.cells.lookup x = some c) ∧ (∀ x ∈ names, x.2 = .free → ∃ c, (x.1, c) ∈ cl) ∧ (∀ p ∈ acc, p ∈ cl) := by
  intro names
  induction names with
  | nil => intro acc _ ha; exact ⟨acc, (by rw [List.forIn_nil]), ha, (fun _ h => nomatch h), fun _ h => h⟩
  | cons p r ih =>
    intro acc hf ha
    obtain ⟨x, k⟩ := p
    rw [List.forIn_cons]
    by_cases hk : k = .free
    · subst hk
      obtain ⟨c, hc⟩ := hf _ List.mem_cons_self rfl
      obtain ⟨cl, e, h1, h2, h3⟩ := ih ((x, c) :: acc) (fun y hy => hf y (List.mem_cons_of_mem _ hy)) (fun y d hy => by
        rcases List.mem_cons.mp hy with e | hy
        · cases e; exact hc
        · exact ha y d hy)
      have hcell : cellOf X.env x = pure c := by unfold cellOf; rw [show X.env.cells.lookup x = some c from hc]
      refine ⟨cl, ?_, h1, fun y hy hk => ?_, fun q hq => h3 q (List.mem_cons_of_mem _ hq)⟩
      · simp only [beq_self_eq_true, if_true, hcell, pure_bind]; exact e
      · rcases List.mem_cons.mp hy with e | hy
        · cases e; exact ⟨c, h3 _ List.mem_cons_self⟩
        · exact h2 y hy hk
    · obtain ⟨cl, e, h1, h2, h3⟩ := ih acc (fun y hy => hf y (List.mem_cons_of_mem _ hy)) ha
      have hb : (k == NameKind.free) = false := by simpa using hk
      refine ⟨cl, ?_, h1, fun y hy hk' => ?_, h3⟩
      · simp only [hb, Bool.false_eq_true, if_false, pure_bind]; exact e
      · rcases List.mem_cons.mp hy with e | hy
        · cases e; exact absurd hk' hk
        · exact h2 y hy hk'

theorem closureFor_ok {X : Cx} (ok : X.Ok) {scope : Scope} (hf : ∀ x ∈ scope.names, x.2 = .free → X.env.scope.names.lookup x.1 = some .cell ∨ X.env.scope.names.lookup x.1 = some .free) :
    ∃ cl : List (Str × Addr), closureFor scope X.env = pure cl ∧ (∀ (x : Str) (c : Addr), cl.lookup x = some c → X.env.cells.lookup x = some c) ∧ (∀ x ∈ scope.names, x.2 = .free → ∃ c, cl.lookup x.1 = some c) := by
  obtain ⟨cl, e, h1, h2, _⟩ := closure_ok ok (scope := scope) scope.names [] (fun x hx hk => ok.has x.1 (hf x hx hk)) (fun _ _ h => nomatch h)
  refine ⟨cl, ?_, fun x c h => h1 x c (lookup_mem h), fun x hx hk => ?_⟩
  · unfold closureFor
    exact (bind_pure _).trans e
  · obtain ⟨c, hc⟩ := h2 x hx hk
    have : ∀ l : List (Str × Addr), (x.1, c) ∈ l → ∃ d, l.lookup x.1 = some d := by
      intro l
      induction l with
      | nil => intro h; cases h
      | cons p r ih =>
        intro h
        obtain ⟨y, d⟩ := p
        rw [List.lookup_cons]
        cases hb : x.1 == y with
        | true => exact ⟨d, rfl⟩
        | false =>
          rcases List.mem_cons.mp h with e | h
          · cases e; simp at hb
          · exact ih h
    exact this cl hc
end L2

end

section
set_option Elab.async false
set_option linter.all false
set_option maxRecDepth 100000
set_option maxHeartbeats 4000000
namespace L2
open PySem PySem.Spec PyProof.Rows

theorem lookup_relabel {scope : Scope} {env : Env} (x : Str) : (relabel scope env).names.lookup x = (scope.names.lookup x).map fun k => if (k == .free && env.scope.kind == .function && env.kindOf x == some .cell) then .cell else k := by
  unfold relabel
  show List.lookup x (scope.names.map _) = _
  induction scope.names with
  | nil => rfl
  | cons p r ih =>
    obtain ⟨n, k⟩ := p
    rw [List.map_cons]
    cases hb : x == n with
    | true =>
      have e := eq_of_beq hb
      subst e
      show List.lookup x ((if (k == NameKind.free && env.scope.kind == .function && env.kindOf x == some .cell) = true then (x, NameKind.cell) else (x, k)) :: _) = _
      by_cases hc : (k == NameKind.free && env.scope.kind == .function && env.kindOf x == some .cell) = true
      · rw [if_pos hc, List.lookup_cons, List.lookup_cons]
        simp only [beq_self_eq_true, Option.map_some]
        rw [if_pos hc]
      · rw [if_neg hc, List.lookup_cons, List.lookup_cons]
        simp only [beq_self_eq_true, Option.map_some]
        rw [if_neg hc]
    | false =>
      show List.lookup x ((if (k == NameKind.free && env.scope.kind == .function && env.kindOf n == some .cell) = true then (n, NameKind.cell) else (n, k)) :: _) = _
      by_cases hc : (k == NameKind.free && env.scope.kind == .function && env.kindOf n == some .cell) = true
      · rw [if_pos hc, List.lookup_cons, List.lookup_cons, hb]; exact ih
      · rw [if_neg hc, List.lookup_cons, List.lookup_cons, hb]; exact ih

theorem HOk.track {P : Program} {w : World} {H : Hp} {h : Heap} {a : Addr} {o : HO} (x : HOk P w H h) (hn : H a = none) (new : ObjOk P w (upd H a o) h a o) : HOk P w (upd H a o) h := fun b u e => by
  by_cases hb : b = a
  · subst hb; rw [upd_same] at e; cases e; exact new
  · rw [upd_ne hb] at e
    exact (x b u e).stay (fun c v _ q => q) (fun c q => by rw [upd_ne (ne_of_none q hn)]; exact q) fun c xs q => by rw [upd_ne (ne_of_none q hn)]; exact q
theorem Un.track {fs ex : List Addr} {H H' : Hp} {h h' : Heap} {a : Addr} {o : HO} (u : Un fs ex H H' h h') (hp : h.objs.size ≤ a) (hl : ∀ b v, H b = some v → b < h.objs.size) : Un fs ex H (upd H' a o) h h' where
  keep := u.keep
  slot := u.slot
  free := fun b v q n x => by rw [upd_ne (Nat.ne_of_lt (Nat.lt_of_lt_of_le (Heap.lt_size q) hp))]; exact u.free b v q n x
  there := u.there
  tups := fun b xs q => by rw [upd_ne (Nat.ne_of_lt (Nat.lt_of_lt_of_le (hl b _ q) hp))]; exact u.tups b xs q
  frzs := fun b v xs q => by rw [upd_ne (Nat.ne_of_lt (Nat.lt_of_lt_of_le (hl b _ q) hp))]; exact u.frzs b v xs q
  tbls := fun b ps q => by rw [upd_ne (Nat.ne_of_lt (Nat.lt_of_lt_of_le (hl b _ q) hp))]; exact u.tbls b ps q

theorem cxC_ok {X : Cx} {pins : List (Addr × Obj)} {σ : St} {H2 : Hp} {s2 : Shared} {Nc : List Str} {src : List (Option Nat)} {scope : Scope} {cl : List (Str × Addr)} {C : Addr} {fp : List Addr} (I2 : Inv X pins σ H2 s2) (S : CompOk X.N X.env.scope Nc src scope)
    (hcl1 : ∀ (x : Str) (c : Addr), cl.lookup x = some c → X.env.cells.lookup x = some c) (hcl2 : ∀ x ∈ scope.names, x.2 = .free → ∃ c, cl.lookup x.1 = some c) (hC : s2.heap.objs.size ≤ C)
    (hfp : ∀ b ∈ fp, b < s2.heap.objs.size) (f2 : ∀ b ∈ fp, FpOk X pins H2 b) : (cxC X Nc scope cl C fp s2 H2).Ok where
  mod := I2.ok.mod
  kind := S.kind
  glob := I2.ok.glob
  blt := I2.ok.blt
  above := hC
  inj := fun x y c h1 h2 => I2.ok.inj x y c (hcl1 _ _ h1) (hcl1 _ _ h2)
  has := fun x h => by
    have h' : (relabel scope X.env).names.lookup x = some .cell ∨ (relabel scope X.env).names.lookup x = some .free := h
    rw [lookup_relabel] at h'
    cases hk : scope.names.lookup x with
    | none => rw [hk] at h'; rcases h' with h' | h' <;> cases h'
    | some k =>
      have hm := lookup_mem hk
      have hkf : k = .free := by
        rw [hk] at h'
        simp only [Option.map_some] at h'
        cases k with
        | free => rfl
        | cell => exact absurd rfl (S.nocell _ hm)
        | _ => exfalso; revert h'; simp
      subst hkf
      exact hcl2 _ hm rfl
  cab := fun x c h => nomatch h
  hd := I2.ok.hd
  frames := I2.ok.frames
  stk := .inl rfl
  exf := fun b hb => ⟨Nat.ne_of_lt (Nat.lt_of_lt_of_le (hfp b hb) hC), fun x c e => (f2 b hb).2.2.2.2.1 x c (hcl1 _ _ e)⟩
  bs := I2.bs
  bsz := Nat.le_trans I2.ok.bsz I2.sz
  noex := fun b o e hb => by
    rcases (f2 b hb).2.2.2.1 with z | z
    · exact I2.ok.noex b o e z
    · exact absurd (Nat.lt_of_lt_of_le (Heap.lt_size e) (Nat.le_trans I2.ok.bsz z)) (Nat.lt_irrefl _)
  exfs := fun b hb hs => by
    obtain ⟨_, f1, f3, _⟩ := f2 b hb
    rcases List.mem_cons.mp (I2.stkSub b hs) with z | z
    · exact f1 z
    · exact f3 z
  funs := I2.stack
  frf := I2.stkFree

/-- the reading of a comprehension's loop -/
def CompW (J : It) (g : TG) (tf : TT) (te : TE) (Q : List V → Hp → Prop) (σ0 : St) (H1 : Hp) : Prop :=
  ∃ W : Nat → Nat → List V → St → Hp → Prop, (∃ m, W 0 m [] σ0 H1) ∧ ∀ i m ys σc Hc, W i m ys σc Hc →
    (J.stop i Hc ∧ ys.length ≤ sizeLine ∧ Q ys Hc) ∨
    (J.go i Hc ∧ ys.length < sizeLine ∧ ∃ N : List V → St → Hp → Prop, (∀ ys' σ' H', N ys' σ' H' → ∃ m', m' < m ∧ W (i + 1) m' ys' σ' H') ∧
      ∀ x H', J.yld i Hc x H' → g x σc H' fun σ2 H2 => tf σ2 H2 fun b H3 => if b = true then te σ2 H3 fun y H4 => N (ys ++ [y]) σ2 H4 else N ys σ2 H3)
def tComp (src : List (Option Nat)) (wi : TI) (g : TG) (tf : TT) (te : TE) : TE := fun σ H Q => wi σ H fun J H1 =>
  CompW J g tf te (fun ys H2 => ∀ D, H2 D = none → Q (.ref D) (upd H2 D (.lst ys))) (cstart src σ) H1

theorem comp_core {X : Cx} {pins : List (Addr × Obj)} {σ : St} {H2 : Hp} {s2 : Shared} {Nc : List Str} {src : List (Option Nat)} {scope : Scope} {cl : List (Str × Addr)} {fp : List Addr} {elt tg iter : Expr} {ifs : List Expr} {pos : Pos}
    {it : Addr} {tn : Nat → Heap → Prop} {J : It} {g : TG} {tf : TT} {te : TE} {Qf : List V → Hp → Prop} {E : Value → Shared → Prop} {RR : Value → Addr → Result → Shared → Prop}
    (hc : X.calm = true) (I2 : Inv X pins σ H2 s2) (S : CompOk X.N X.env.scope Nc src scope)
    (hcl1 : ∀ (x : Str) (c : Addr), cl.lookup x = some c → X.env.cells.lookup x = some c) (hcl2 : ∀ x ∈ scope.names, x.2 = .free → ∃ c, cl.lookup x.1 = some c)
    (T : Turn X.prog X.w X.K tg J fp it tn) (st2 : tn 0 s2.heap) (f2 : ∀ b ∈ fp, FpOk X pins H2 b)
    (hg : ∀ cl C fp s2 H2, PG (cxC X Nc scope cl C fp s2 H2) tg g) (hf : ∀ cl C fp s2 H2, PF (cxC X Nc scope cl C fp s2 H2) ifs tf) (he : ∀ cl C fp s2 H2, PE (cxC X Nc scope cl C fp s2 H2) elt te)
    (hw : CompW J g tf te Qf (cstart src σ) H2)
    (fin : ∀ (H4 : Hp) (s4 : Shared) (ys : List V) (m : Str → Option Value) (C : Addr), s2.heap.objs.size ≤ C → H4 s2.heap.objs.size = none → Inv X pins σ (upd H4 s2.heap.objs.size (.lst ys)) s4 → s4.heap.Ns C m → upd H4 s2.heap.objs.size (.lst ys) C = none → Qf ys H4 → RR (.ref s2.heap.objs.size) C (.ok .next) s4) :
    wpAny (model X.prog X.w) X.A (newList []) (fun acc s3 => wpAny (model X.prog X.w) X.A (newFunctionEnv scope X.env.globals cl [] X.env.qual none .none (some X.env)) (fun cenv s4 =>
      codeAny (model X.prog X.w) X.A (.compStart (.ListComp elt [⟨tg, iter, ifs, 0⟩] scope pos) 0 (.ref it) acc { cenv with scope := relabel scope X.env }) (RR acc cenv.locals) s4) E s3) E s2 := by
  refine wpAny_newObj_type (wpAny_newFunctionEnv S.nocell (by intro y hy; simp at hy) (fun h1 hns1 hsb1 => ?_) S.kind)
  dsimp only at hns1 hsb1 ⊢
  generalize hH2 : s2.heap.push { cls := .type "list", dict := none, data := .seq ([] : List Value).toArray } = G2 at hns1 hsb1 ⊢
  have hCz : G2.objs.size = s2.heap.objs.size + 1 := by rw [← hH2, Heap.size_push]
  generalize hCe : G2.objs.size = C at hns1 hsb1 hCz ⊢
  generalize hDe : s2.heap.objs.size = D at fin hCz ⊢
  have hDC : D ≠ C := by omega
  have hCle : s2.heap.objs.size ≤ C := by omega
  have hDle : s2.heap.objs.size ≤ D := by omega
  have old : ∀ b o, s2.heap.get? b = some o → h1.get? b = some o := fun b o e => hsb1.extBut b o (Nat.ne_of_lt (Nat.lt_of_lt_of_le (Heap.lt_size e) hCle)) (Heap.get?_push_of_some _ (hH2 ▸ Heap.get?_push_of_some _ e))
  have hacc : h1.get? D = some { cls := .type "list", data := .seq ([] : List Value).toArray 0 } := by
    refine hsb1.extBut _ _ hDC (Heap.get?_push_of_some _ ?_)
    rw [← hH2, ← hDe]
    exact Heap.get?_push_size _ rfl
  have hfp : ∀ b ∈ fp, b < s2.heap.objs.size := fun b hb => by
    obtain ⟨o, e, _⟩ := T.obj 0 _ st2 b hb
    exact Heap.lt_size e
  have ok := cxC_ok (Nc := Nc) (src := src) (scope := scope) (cl := cl) (C := C) (fp := fp) I2 S hcl1 hcl2 hCle hfp f2
  generalize hXC : cxC X Nc scope cl C fp s2 H2 = Y at ok
  have hYN : Y.N = Nc := by rw [← hXC]; rfl
  -- the inner start
  have I0 : Inv (cxC X Nc scope cl C fp s2 H2) [] (cstart src σ) H2 { s2 with heap := h1, toks := s2.toks + ([] : List (Str × Value)).length } := by
    rw [← hXC] at ok
    refine ⟨ok, rfl, I2.bare, Un.kept old, ⟨_, hns1, fun j x v e1 e2 _ => ?_⟩, fun x c e => ?_, I2.hok.fresh hCle, fun x c e => I2.freeC x c (hcl1 _ _ e), (fun p hp => nomatch hp), I2.hok.kept old, ?_⟩
    · -- a name of the closure
      have e2' : (cstart src σ)[j]? = some (some v) := e2
      have e1' : Nc[j]? = some x := e1
      unfold cstart at e2'
      rw [List.getElem?_map] at e2'
      cases hs : src[j]? with
      | none => rw [hs] at e2'; cases e2'
      | some o =>
        rw [hs] at e2'
        cases o with
        | none => cases e2'
        | some i =>
          simp only [Option.map_some, Option.some.injEq] at e2'
          obtain ⟨y, hy1, hy2, hy3⟩ := S.src j i hs
          rw [e1'] at hy1; cases hy1
          have hσ : σ[i]? = some (some v) := by
            cases hq : σ[i]? with
            | none => rw [hq] at e2'; cases e2'
            | some z => rw [hq] at e2'; simp only [Option.getD_some] at e2'; rw [e2']
          have hm := lookup_mem hy3
          have hfr := S.free _ hm rfl
          obtain ⟨m0, hn0, hl0⟩ := I2.loc
          obtain ⟨u, r, l⟩ := hl0 i x v hy2 hσ (Or.inr hfr)
          refine ⟨u, r, .inr ⟨?_, ?_⟩⟩
          · show (relabel scope X.env).names.lookup x = some .cell ∨ (relabel scope X.env).names.lookup x = some .free
            rw [lookup_relabel, hy3]
            simp only [Option.map_some]
            split
            · exact .inl rfl
            · exact .inr rfl
          · rcases l with ⟨k, _⟩ | ⟨_, c, hc1, hc2⟩
            · have k' : X.env.scope.names.lookup x = some .local := k
              rw [k'] at hfr; rcases hfr with z | z <;> cases z
            · obtain ⟨c', hc'⟩ := hcl2 _ hm rfl
              have := hcl1 _ _ hc'
              rw [hc1] at this; cases this
              exact ⟨c, hc', hc2.keeps old⟩
    · obtain ⟨v, z⟩ := I2.cell x c (hcl1 _ _ e)
      exact ⟨v, z.keeps old⟩
    · show (cstart src σ).length = Nc.length
      unfold cstart; rw [List.length_map]; exact S.len
  obtain ⟨W, ⟨m0, w0⟩, turn⟩ := hw
  have loop : codeAny (model X.prog X.w) X.A (.compLoop (.ListComp elt [⟨tg, iter, ifs, 0⟩] scope pos) 0 (.ref it) (.ref D) (compEnvC scope cl C X.env)) (RR (.ref D) C) { s2 with heap := h1, toks := s2.toks + ([] : List (Str × Value)).length } := by
    have fpk : ∀ {H' : Hp} {ob : Obj}, (∀ b ∈ fp, H' b = none) → ∀ b ∈ fp, FpOk (cxC X Nc scope cl C fp s2 H2) [(D, ob)] H' b := fun {H' ob} hn b hb =>
      ⟨hn b hb, (I0.ok.exf b hb).1, I0.ok.exfs b hb, .inl hb, (I0.ok.exf b hb).2, fun p hp => by
        have e : p = (D, ob) := List.mem_singleton.mp hp
        subst e
        exact Nat.ne_of_gt (Nat.lt_of_lt_of_le (hfp b hb) hDle)⟩
    have hDfs : D ∉ frs X.stack := fun hs => by
      rcases List.mem_cons.mp (I2.stkSub D hs) with z | z
      · exact absurd (Nat.lt_of_lt_of_le I2.lt hDle) (by rw [z]; exact Nat.lt_irrefl _)
      · exact I2.nofs hDle z
    refine loop_go (fun n s' => ∃ i ys σ' H' its k, Inv (cxC X Nc scope cl C fp s2 H2) [] σ' H' s' ∧ tn i s'.heap ∧ (∀ b ∈ fp, H' b = none) ∧ H' D = none ∧ s'.heap.get? D = some { cls := .type "list", data := .seq (its : List Value).toArray k } ∧ Vals ys its ∧ W i n ys σ' H') ?_ m0
      ⟨0, [], cstart src σ, H2, [], 0, I0, T.keep _ _ _ st2 fun b hb o e => old b o e, fun b hb => (f2 b hb).1, I2.hok.fresh hDle, hacc, .nil, w0⟩
    rintro n s3 ⟨i, ys, σ3, H3, its, k, I3, st3, fr3, hD3, hO3, vs3, w3⟩
    have I3' : Inv (cxC X Nc scope cl C fp s2 H2) [(D, ({ cls := .type "list", data := .seq its.toArray k } : Obj))] σ3 H3 s3 := I3.pins_of fun p hp => by
      have e := List.mem_singleton.mp hp
      subst e
      exact ⟨hO3, hD3, hDC, hDfs, fun v z => by
        have z' : Data.seq _ _ = Data.cell v := z
        cases z'⟩
    rcases turn i n ys σ3 H3 w3 with ⟨stop, hlen, qn⟩ | ⟨go, hlen, N, hN, step⟩
    · refine thn (T.done (cxC X Nc scope cl C fp s2 H2) rfl rfl rfl hc i _ s3 σ3 H3 _ I3' (fpk fr3) st3 stop) fun r s4 ⟨hr, I4⟩ => ?_
      subst hr
      have hO4 := (I4.pin (D, _) (List.mem_append_right _ (List.mem_singleton.mpr rfl))).1
      obtain ⟨m4, hn4, _⟩ := I4.loc
      have fC : H3 C = none := I4.free
      have uD : upd H3 D (.lst ys) C = none := by rw [upd_ne hDC.symm]; exact fC
      have hl2 : ∀ b v, H2 b = some v → b < s2.heap.objs.size := fun b v e => I2.hok.lt e
      have Iout : Inv X pins σ (upd H3 D (.lst ys)) s4 := by
        refine I2.call' (ch := fp) I4.os (Un.track I4.base hDle hl2) (HOk.track I4.hok hD3 ⟨hlen, its, k, vs3, hO4⟩) I4.bare fun b hb => ?_
        obtain ⟨_, a1, _, a3, a4, a5⟩ := f2 b hb
        exact ⟨a3, a1, a4, a5⟩
      exact fin H3 s4 ys m4 C (by omega) hD3 Iout hn4 uD qn
    · refine thn (T.item (cxC X Nc scope cl C fp s2 H2) rfl rfl rfl hc i _ s3 σ3 H3 _ I3' (fpk fr3) st3 go) fun r s4 ⟨u, hr, h4⟩ => ?_
      subst hr
      refine thn h4 fun _ s5 ⟨x, H5, I5, r5, y5, st5, fr5⟩ => ?_
      have I5' := I5.pinned (fpk fr5) (T.obj _ _ st5)
      refine thn (hg cl C fp s2 H2 _ s5 σ3 H5 x u _ I5' r5 (step x H5 y5)) fun _ s6 ⟨σ6, H6, I6, q6⟩ => ?_
      refine thn (hf cl C fp s2 H2 _ s6 σ6 H6 _ I6 q6) fun ok s7 ⟨H7, I7, q7⟩ => ?_
      have back : ∀ {s8 : Shared} {σ8 : St} {H8 : Hp}, Inv (cxC X Nc scope cl C fp s2 H2) ([(D, ({ cls := .type "list", data := .seq its.toArray k } : Obj))] ++ pinsAt fp s5.heap) σ8 H8 s8 →
          tn (i + 1) s8.heap ∧ (∀ b ∈ fp, H8 b = none) ∧ H8 D = none ∧ s8.heap.get? D = some { cls := .type "list", data := .seq its.toArray k } := fun {s8 σ8 H8} I8 => by
        refine ⟨T.keep _ _ _ st5 fun b hb o e => (I8.pin (b, o) (List.mem_append_right _ (List.mem_append_right _ (mem_pinsAt hb e)))).1, fun b hb => ?_, ?_, ?_⟩
        · obtain ⟨o, e, d⟩ := T.obj _ _ st5 b hb
          exact (I8.pin (b, o) (List.mem_append_right _ (List.mem_append_right _ (mem_pinsAt hb e)))).2.1
        · exact (I8.pin (D, _) (List.mem_append_right _ (List.mem_append_left _ (List.mem_singleton.mpr rfl)))).2.1
        · exact (I8.pin (D, _) (List.mem_append_right _ (List.mem_append_left _ (List.mem_singleton.mpr rfl)))).1
      cases ok with
      | false =>
        obtain ⟨m', hm', w7⟩ := hN _ _ _ q7
        obtain ⟨b1, b2, b3, b4⟩ := back I7
        exact ⟨m', hm', i + 1, ys, σ6, H7, its, k, I7.pins_of (fun p hp => nomatch hp), b1, b2, b3, b4, vs3, w7⟩
      | true =>
        refine thn (he cl C fp s2 H2 _ s7 σ6 H7 _ I7 q7) fun v s8 ⟨y, H8, I8, r8, q8⟩ => ?_
        obtain ⟨m', hm', w8⟩ := hN _ _ _ q8
        obtain ⟨b1, b2, b3, b4⟩ := back I8
        have hl8 := vs3.length
        refine call_meets F.slot_list_append ⟨_, b4, rfl⟩ F.entry_list_append (F.args_list_append_2 _ _) (PySem.list_append D its.toArray k v (by rw [List.size_toArray]; omega)) ⟨b4, ?_⟩
        have I8n : Inv (cxC X Nc scope cl C fp s2 H2) [] σ6 H8 s8 := I8.pins_of fun p hp => nomatch hp
        have kq : ∀ b o, b ≠ D → s8.heap.get? b = some o → (s8.heap.update D (Obj.mapSeq (·.push v))).get? b = some o := fun b o hb e => (Heap.get?_update_other s8.heap _ (Ne.symm hb)).trans e
        have qn := PySem.IsL.update b4 (·.push v)
        have e2 : its.toArray.push v = (its ++ [v]).toArray := by simp
        rw [e2] at qn
        have I9 : Inv (cxC X Nc scope cl C fp s2 H2) [] σ6 H8 { s8 with heap := s8.heap.update D (Obj.mapSeq (·.push v)), toks := s8.toks } :=
          I8n.turned (it := D) kq b3 hDC (.inr hDle) (fun x c e z => by
            obtain ⟨w', z'⟩ := I2.cell x c (hcl1 _ _ e)
            exact absurd (Nat.lt_of_lt_of_le z'.lt hDle) (by rw [z]; exact Nat.lt_irrefl _)) (fun p hp => nomatch hp)
        refine ⟨m', hm', i + 1, ys ++ [y], σ6, H8, its ++ [v], _, I9, T.keep _ _ _ b1 fun b hb o e => kq b o (Nat.ne_of_lt (Nat.lt_of_lt_of_le (hfp b hb) hDle)) e, b2, b3, qn, vs3.append (.cons r8 .nil), w8⟩
  exact codeAny_compStart_list loop (T.self X.A 0 _ _ _ (T.keep _ _ _ st2 fun b hb o e => old b o e) loop)

section
variable {X : Cx} {Nc : List Str} {src : List (Option Nat)} {scope : Scope} {elt tg iter : Expr} {ifs : List Expr} {pos : Pos} {wi : TI} {g : TG} {tf : TT} {te : TE}
/-- [elt for tg in iter if ifs] -/
theorem pe_comp (src : List (Option Nat)) (hc : X.calm = true) (S : CompOk X.N X.env.scope Nc src scope) (hi : PI X tg iter wi)
    (hg : ∀ cl C fp s2 H2, PG (cxC X Nc scope cl C fp s2 H2) tg g) (hf : ∀ cl C fp s2 H2, PF (cxC X Nc scope cl C fp s2 H2) ifs tf) (he : ∀ cl C fp s2 H2, PE (cxC X Nc scope cl C fp s2 H2) elt te)
    (hs : ∀ x, foldedSetIterable iter X.env x = pure x := by intro _; rfl) : PE X (.ListComp elt [⟨tg, iter, ifs, 0⟩] scope pos) (tComp src wi g tf te) := by
  intro pins s σ H Q I h
  obtain ⟨cl, hclos, hcl1, hcl2⟩ := closureFor_ok I.ok (scope := scope) S.free
  rw [eval_ListComp]
  refine wpAny_comprehension_free (use := none) rfl hs hclos S.kind (fun x hx hl => by obtain ⟨n, k⟩ := x; cases hl; exact lookup_of_mem S.nodup hx) (thn (hi pins s σ H _ I h) fun xv s1 h1 => thn h1 fun itv s2 h2 => ?_)
  obtain ⟨it, fp, tn, J, H2, e, I2, T, st2, f2, hw⟩ := h2
  subst e
  refine comp_core (RR := fun acc C => compPost (model X.prog X.w) X.A X.xe none (EP X pins σ Q) acc C) hc I2 S hcl1 hcl2 T st2 f2 hg hf he hw ?_
  intro H4 s4 ys m C hC hD Iout hn hCn q
  refine ⟨m, hn, fun h' sb => ⟨.ref s2.heap.objs.size, _, ?_, rfl, q _ hD⟩⟩
  obtain ⟨f0, f1, f3, f4, f5, f6⟩ := I2.fpOk (H' := upd H4 s2.heap.objs.size (.lst ys)) hC hCn
  exact Iout.turned (t' := s4.toks) (it := C) (fun b o hb e => (sb.2 b hb).trans e) f0 f1 f4 f5 f6
/-- name = [elt for ..], stored ahead of the block's end -/
theorem ps_setComp {i : Nat} {y : Str} {pos' spos : Pos} (src : List (Option Nat)) (hN : X.N.Nodup) (hi' : X.N[i]? = some y) (hy : X.env.scope.names.lookup y = some .local)
    (hc : X.calm = true) (S : CompOk X.N X.env.scope Nc src scope) (hi : PI X tg iter wi)
    (hg : ∀ cl C fp s2 H2, PG (cxC X Nc scope cl C fp s2 H2) tg g) (hf : ∀ cl C fp s2 H2, PF (cxC X Nc scope cl C fp s2 H2) ifs tf) (he : ∀ cl C fp s2 H2, PE (cxC X Nc scope cl C fp s2 H2) elt te)
    (hsw : swapsWith (.ListComp elt [⟨tg, iter, ifs, 0⟩] scope pos) (some (.Name y pos')) spos.line X.env = pure true := by rfl)
    (hs : ∀ x, foldedSetIterable iter X.env x = pure x := by intro _; rfl) : PS X (.Assign [.Name y pos'] (.ListComp elt [⟨tg, iter, ifs, 0⟩] scope pos) spos) (tAsg (tComp src wi g tf te) (gName i)) := by
  intro pins s σ H D I h
  obtain ⟨cl, hclos, hcl1, hcl2⟩ := closureFor_ok I.ok (scope := scope) S.free
  rw [exec_Assign_Name_used _ _ _ _ hsw]
  refine wpAny_bind (wpAny_standAt (wpAny_bind ?_))
  show wpAny _ X.A (do let _ ← comprehension (.ListComp elt [⟨tg, iter, ifs, 0⟩] scope pos) scope X.env _ (newList []) false (eval iter X.env) (some (assign (.Name y pos') X.env))) _ _ s
  refine wpAny_bind (wpAny_mono (wpAny_comprehension_free (use := some (assign (.Name y pos') X.env)) (Q := fun _ s' => SP X pins D .next s') rfl hs hclos S.kind (fun x hx hl => by obtain ⟨n, k⟩ := x; cases hl; exact lookup_of_mem S.nodup hx)
    (thn (hi pins s σ H _ I h) fun xv s1 h1 => thn h1 fun itv s2 h2 => ?_)) (fun _ s' hq => wpAny_pure (wpAny_pure hq)) fun _ _ e => e)
  obtain ⟨it, fp, tn, J, H2, e, I2, T, st2, f2, hw⟩ := h2
  subst e
  refine comp_core (RR := fun acc C => compPost (model X.prog X.w) X.A X.xe (some (assign (.Name y pos') X.env)) (fun _ s' => SP X pins D .next s') acc C) hc I2 S hcl1 hcl2 T st2 f2 hg hf he hw ?_
  intro H4 s4 ys m C hC hD Iout hn hCn q
  show wpAny _ X.A (assign (.Name y pos') X.env (.ref s2.heap.objs.size)) _ _ _
  refine wpAny_assign_Name (store_ok2 (i := i) Iout hN hi' (.inl hy) (v := .ref s2.heap.objs.size) rfl (fun s5 I5 ch => ?_) (.inr hy))
  obtain ⟨f0, f1, f3, f4, f5, f6⟩ := I2.fpOk (H' := upd H4 s2.heap.objs.size (.lst ys)) hC hCn
  obtain ⟨a, sb, ha⟩ := ch
  have hCa : C ≠ a := by
    rcases ha with ha | ha
    · rw [ha]; exact f1
    · exact fun z => f5 _ _ ha z.symm
  refine ⟨m, hn.sameBut sb hCa, fun h' sb' => ⟨_, _, I5.turned (t' := s5.toks) (it := C) (fun b o hb e => (sb'.2 b hb).trans e) f0 f1 f4 f5 f6, q _ hD⟩⟩
end
end L2

end

section
set_option Elab.async false
set_option linter.all false
set_option maxRecDepth 100000
set_option maxHeartbeats 4000000
namespace L2
open PySem PySem.Spec PyProof.Rows

section
variable {X : Cx} {pins : List (Addr × Obj)} {σ : St} {H : Hp} {s : Shared}
/-- several untracked records of ours have turned -/
theorem Inv.turnedL {h' : Heap} {t' : Nat} {ch : List Addr} (I : Inv X pins σ H s) (k : ∀ b o, b ∉ ch → s.heap.get? b = some o → h'.get? b = some o) (hf : ∀ b ∈ ch, FpOk X pins H b) : Inv X pins σ H { s with heap := h', toks := t' } := by
  have nit : ∀ b u, H b = some u → b ∉ ch := fun b u e z => by rw [(hf b z).1] at e; cases e
  refine I.step (g' := s.gens) (d' := s.drawn) (ch := ch) (fun b hb => ?_) (fun b o _ _ hc e _ => k b o hc e) (fun b o _ _ hc e _ => ⟨o.slots, k b o hc e⟩) (fun _ _ _ _ n => n)
    (fun b o hc e => ⟨o, k b o hc e⟩) (fun _ _ e => e) (fun _ _ _ e => e) (fun b ps e => ⟨#[], by rw [e]; simp⟩) (fun m hm => ?_) (fun b u e => ?_) I.bare
  · obtain ⟨_, a1, _, a3, a4, a5⟩ := hf b hb
    exact ⟨a3, a1, a4, a5⟩
  · obtain ⟨o, es, ep, ho, r⟩ := hm
    exact ⟨o, es, ep, k _ o (fun z => (hf _ z).2.1 rfl) ho, r⟩
  · refine (I.hok b u e).stay (fun c v hc q => k c v ?_ q) (fun _ q => q) fun _ _ q => q
    rcases hc with z | z
    · rw [z]; exact nit b u e
    · exact nit c _ z
theorem Un.track' {fs ex : List Addr} {H H' : Hp} {h h' : Heap} {a : Addr} {o : HO} (u : Un fs ex H H' h h') (hp : h.objs.size ≤ a) (hn : H' a = none) : Un fs ex H (upd H' a o) h h' where
  keep := u.keep
  slot := u.slot
  free := fun b v q n x => by rw [upd_ne (Nat.ne_of_lt (Nat.lt_of_lt_of_le (Heap.lt_size q) hp))]; exact u.free b v q n x
  there := u.there
  tups := fun b xs q => by rw [upd_ne (ne_of_none (u.tups b xs q) hn)]; exact u.tups b xs q
  frzs := fun b v xs q => by rw [upd_ne (ne_of_none (u.frzs b v xs q) hn)]; exact u.frzs b v xs q
  tbls := fun b ps q => by
    obtain ⟨m, e⟩ := u.tbls b ps q
    exact ⟨m, by rw [upd_ne (ne_of_none e hn)]; exact e⟩
/-- an untracked object of ours is tracked from here on -/
theorem Inv.track {a : Addr} {o : HO} (I : Inv X pins σ H s) (f : FpOk X pins H a) (hs : X.s₀.heap.objs.size ≤ a) (new : ObjOk X.prog X.w (upd H a o) s.heap a o) : Inv X pins σ (upd H a o) s := by
  obtain ⟨hn, h1, _, _, h4, h5⟩ := f
  refine ⟨I.ok, I.os, I.bare, Un.track' I.base hs hn, I.loc, I.cell, by rw [upd_ne (Ne.symm h1)]; exact I.free, fun x c e => by rw [upd_ne (h4 x c e)]; exact I.freeC x c e, fun p hp => ?_, HOk.track I.hok hn new, I.len⟩
  obtain ⟨a1, a2, a3⟩ := I.pin p hp
  exact ⟨a1, by rw [upd_ne (h5 p hp)]; exact a2, a3⟩
end

/-! ### enumerate of a list -/
def Ite (K : PySem.W.Frag) (a : Addr) : It :=
  ⟨fun i H => ∃ xs x, SqL K H a xs ∧ xs[i]? = some x,
   fun i H v H' => ∃ T x, H T = none ∧ v = .ref T ∧ H' = upd H T (.tup [.int i, x]) ∧ ∀ xs, SqL K H a xs → xs[i]? = some x,
   fun i H => ∃ xs, SqL K H a xs ∧ xs.length ≤ i⟩
theorem tup2_ok {P : Program} {w : World} {H : Hp} {h : Heap} {T : Addr} {x y : V} {u v : Value} (r : RelV x u) (q : RelV y v) (e : h.get? T = some { cls := .type "tuple", data := .seq #[u, v] }) : ObjOk P w H h T (.tup [x, y]) :=
  ⟨by show 2 ≤ sizeLine; decide, [u, v], .cons r (.cons q .nil), ⟨_, e, rfl, _, rfl⟩⟩
theorem turn_enum {P : Program} {w : World} {K : PySem.W.Frag} {elts : List Expr} {kt : Nat} {tp : Pos} (a e it : Addr) (hne : e ≠ it) :
    Turn P w K (.Tuple elts kt tp) (Ite K a) [e, it] e (fun i h => (∃ old, IsEnum h e it i old) ∧ h.IsListIter it a i) where
  mem := by simp
  obj := fun i h st b hb => by
    obtain ⟨⟨old, he⟩, hi⟩ := st
    rcases List.mem_cons.mp hb with z | z
    · subst z
      exact ⟨_, he, fun v z => by
        have z' : Data.fields _ = Data.cell v := z
        cases z'⟩
    · have z := List.mem_singleton.mp z
      subst z
      obtain ⟨o, e1, c, d⟩ := hi
      exact ⟨o, e1, fun v z => by rw [d] at z; cases z⟩
  keep := fun i h h' st k => by
    obtain ⟨⟨old, he⟩, hi⟩ := st
    exact ⟨⟨old, k e (by simp) _ he⟩, hi.at fun o e1 => k it (by simp) o e1⟩
  item := by
    intro X hP hw hK hc i pins s σ H E I hf st hg
    subst hP hw hK
    obtain ⟨xs, x, hq, hx⟩ := hg
    obtain ⟨its, rv, p, hz⟩ := I.list hq
    obtain ⟨u, hu, ru⟩ := rv.get hx
    obtain ⟨⟨old, he⟩, hi⟩ := st
    refine wpAny_pyNext_enum_item he hi p.isList (x := u) (by simpa using hu) hne fun h' ho hi' ht hsz kk => ⟨_, rfl, ?_⟩
    refine wpAny_letOwnedTupleGo_enum ho fun h2 he2 sb => ?_
    have fT : FpOk X pins H s.heap.objs.size := I.fpOk (Nat.le_refl _) (I.hok.fresh (Nat.le_refl _))
    have k2 : ∀ b o, b ∉ [e, it] → s.heap.get? b = some o → h2.get? b = some o := fun b o hb e1 => by
      simp only [List.mem_cons, List.mem_nil_iff, or_false, not_or] at hb
      exact (sb.2 b hb.1).trans (kk b o hb.1 hb.2 e1)
    have I1 : Inv X pins σ H { s with heap := h2, toks := s.toks + 1 } := I.turnedL (ch := [e, it]) k2 hf
    have eT : h2.get? s.heap.objs.size = some { cls := .type "tuple", data := .seq #[.int i s.toks, u] } := (sb.2 _ (Nat.ne_of_gt (Heap.lt_size he))).trans ht
    have I2 := I1.track (o := .tup [.int i, x]) fT (Nat.le_trans I.sz (Nat.le_refl _)) (tup2_ok ⟨_, rfl⟩ ru eT)
    refine ⟨.ref s.heap.objs.size, _, I2, rfl, ⟨_, x, fT.1, rfl, rfl, fun ys hy => by rw [I.list_inj hy hq]; exact hx⟩, ⟨⟨u, by exact_mod_cast he2⟩, hi'.extBut sb.extBut (Ne.symm hne)⟩, fun b hb => ?_⟩
    obtain ⟨o, eb⟩ : ∃ o, s.heap.get? b = some o := by
      rcases List.mem_cons.mp hb with z | z
      · subst z; exact ⟨_, he⟩
      · have z := List.mem_singleton.mp z
        subst z
        obtain ⟨o, e1, _⟩ := hi
        exact ⟨o, e1⟩
    rw [upd_ne (Nat.ne_of_lt (Heap.lt_size eb))]
    exact (hf b hb).1
  done := by
    intro X hP hw hK hc i pins s σ H E I hf st hg
    subst hP hw hK
    obtain ⟨xs, hq, hx⟩ := hg
    obtain ⟨its, rv, p, hz⟩ := I.list hq
    obtain ⟨⟨old, he⟩, hi⟩ := st
    have hl := rv.length
    refine wpAny_pyNext_enum_end (I.ok.hd hc) he hi p.isList (by simp; omega) fun h' eb => ⟨rfl, I.turnedL (t' := s.toks) (ch := [e, it]) (fun b o hb e1 => eb b o (fun z => hb (by simp [z])) e1) hf⟩
  self := fun _ _ _ _ _ st h => by
    obtain ⟨⟨old, he⟩, hi⟩ := st
    exact wpAny_pyIter_enum he h
def iEnum (K : PySem.W.Frag) (ta : TA) : TI := fun σ H R => ta σ H fun vs H1 => ∃ a, vs = [.ref a] ∧ (∃ xs, SqL K H1 a xs) ∧ R (Ite K a) H1
theorem pi_enum {X : Cx} {a : Expr} {ta : TA} {p pos : Pos} {elts : List Expr} {kt : Nat} {tp : Pos} (hg : Gl X "enumerate") (hm : X.mg "enumerate" = none) (ha : PA X [a] ta) (hs : starEach [a] X.env = [(false, eval a X.env)] := by rfl) :
    PI X (.Tuple elts kt tp) (.Call (.Name "enumerate" p) [a] [] pos) (iEnum X.K ta) := by
  intro pins s σ H R I h
  refine Call_ (ld_blt I hg hm boot_enumerate (PyProof.Rows.callWith_type1 (thn (ha pos pins s σ H _ I h) fun us s1 ⟨vs, H1, I1, r1, q1⟩ => ?_) hs rfl))
  obtain ⟨l, e, ⟨xs, hq⟩, q⟩ := q1
  subst e
  obtain ⟨u, rfl, ru⟩ := vals1 r1
  cases ru
  obtain ⟨its, rv, pl, hz⟩ := I1.list hq
  refine call_enumerate_list pl.isList fun h' he hi hsz kk => ?_
  refine wpAny_pyIter_enum he ?_
  have I2 : Inv X pins σ H1 { s1 with heap := h', toks := s1.toks } := I1.kept kk
  refine ⟨s1.heap.objs.size + 1, [s1.heap.objs.size + 1, s1.heap.objs.size], _, _, H1, rfl, I2, turn_enum l _ _ (Nat.succ_ne_self _), ⟨⟨_, he⟩, hi⟩, fun b hb => ?_, q⟩
  rcases List.mem_cons.mp hb with z | z
  · subst z; exact I1.fpOk (Nat.le_succ _) (I1.hok.fresh (Nat.le_succ _))
  · have z := List.mem_singleton.mp z
    subst z; exact I1.fpOk (Nat.le_refl _) (I1.hok.fresh (Nat.le_refl _))

/-! ### zip of two lists -/
def Itz (K : PySem.W.Frag) (a b : Addr) : It :=
  ⟨fun i H => ∃ xs x ys y, SqL K H a xs ∧ SqL K H b ys ∧ xs[i]? = some x ∧ ys[i]? = some y,
   fun i H v H' => ∃ T x y, H T = none ∧ v = .ref T ∧ H' = upd H T (.tup [x, y]) ∧ (∀ xs, SqL K H a xs → xs[i]? = some x) ∧ ∀ ys, SqL K H b ys → ys[i]? = some y,
   fun i H => ∃ xs ys, SqL K H a xs ∧ SqL K H b ys ∧ (xs.length ≤ i ∨ ys.length ≤ i)⟩
theorem boot_zip : bootBuiltins "zip" = some (.type "zip") := by decide +kernel
def iZip (K : PySem.W.Frag) (ta : TA) : TI := fun σ H R => ta σ H fun vs H1 => ∃ a b, vs = [.ref a, .ref b] ∧ (∃ xs, SqL K H1 a xs) ∧ (∃ ys, SqL K H1 b ys) ∧ R (Itz K a b) H1
end L2

end

section
set_option Elab.async false
set_option linter.all false
set_option maxRecDepth 100000
set_option maxHeartbeats 4000000
namespace L2
open PySem PySem.Spec PyProof.Rows

/-! ### f(k = v, ..) -/
section
variable {X : Cx} {CX : CXT} {k : Nat} {f : Addr} {fd : FuncData} {ps ks : List Str} {sp : Sp} {E : XK} {x : Str} {p pos : Pos} {kws : List Keyword} {tk : TA} {g : List Value → List Value → List Value} {gV : List V → List V → List V}
theorem Fun.kbinds {K : PySem.W.Frag} {x qual : Str} {st : Stmt} {f : Addr} {fd : FuncData} {ps ks : List Str} {g : List Value → List Value → List Value} {gV : List V → List V → List V} (F : Fun K x qual st f fd)
    (h : ∀ (kV doc pm : Value) (an : Option Addr) (cdv ct : Value) (us ws : List Value), (g us ws).length = ps.length → bindArgs (PySem.W.fnOf x qual (defArgs st) (defBody st) (defScope st) .none kV doc pm an cdv ct) ⟨us, ks.zip ws⟩ = pure (ps.zip (g us ws)))
    (rel : ∀ {vs : List V} {us : List Value} {zs : List V} {ws : List Value}, Vals vs us → Vals zs ws → Vals (gV vs zs) (g us ws)) : KBinds K fd ps ks g gV := by
  obtain ⟨oc, od, kV, doc, pm, an, cdv, ct, osl, rfl, lk, hcd⟩ := F.ex
  exact ⟨fun s us ws _ hl => .of_eq (h kV doc pm an cdv ct us ws hl), rel⟩
end

section
variable {X : Cx}
/-! ### sum, all, isinstance -/
def sumI (xs : List V) : Int := (xs.map fun v => match v with | .int i => i | _ => 0).sum
theorem all_range (bs : List Bool) (tr : Nat → Bool) (h : ∀ i b, bs[i]? = some b → tr i = b) : (List.range bs.length).all tr = bs.all id := by
  induction bs generalizing tr with
  | nil => rfl
  | cons b r ih =>
    rw [List.length_cons, List.range_succ_eq_map, List.all_cons, List.all_map, List.all_cons, h 0 b rfl]
    have := ih (tr ∘ Nat.succ) (fun i c hi => h (i + 1) c (by simpa using hi))
    rw [this]; rfl
theorem call_allL (hc : X.calm = true) : CallR X (.builtin "all") (fun xs H Q => ∃ (a : Addr) (bs : List Bool), xs = [.ref a] ∧ SqL X.K H a (bs.map V.bl) ∧ Q (.bl (bs.all id)) H) := by
  intro pins s σ H xs us Q I r h
  obtain ⟨a, bs, rfl, hq, q⟩ := h
  obtain ⟨u, rfl, ru⟩ := vals1 r
  cases ru
  obtain ⟨its, rv, p, hz⟩ := I.list hq
  have hl := rv.length
  rw [List.length_map] at hl
  refine call_all_walk (wpAny_pyIter_list p.isList ?_)
  have hne : a ≠ s.heap.objs.size := by
    obtain ⟨o, ho, _⟩ := p.isList
    exact Nat.ne_of_lt (Heap.lt_size ho)
  refine ⟨s.heap.objs.size, _, _, _, _, _, fun i => (bs[i]?).getD true, rfl, Walks.list (A := X.A.in1) (I.ok.hd hc) s.heap.objs.size a hne its.toArray, ⟨⟨_, Heap.get?_push_size _ rfl, rfl, rfl⟩, p.isList.push _⟩, ?_, fun h' tk kk => ?_⟩
  · intro i v s' Q' E' hv hq'
    have hv' : its[i]? = some v := by simpa using hv
    cases hn : bs[i]? with
    | none =>
      exfalso
      rw [List.getElem?_eq_none_iff, hl] at hn
      rw [List.getElem?_eq_none hn] at hv'
      cases hv'
    | some b =>
      obtain ⟨u', hu', ru'⟩ := rv.get (i := i) (x := V.bl b) (by simp [hn])
      obtain rfl : u' = Value.bool b := ru'
      rw [hu'] at hv'; cases hv'
      have hq2 : Q' ((bs[i]?).getD true) s' := hq'
      rw [hn] at hq2
      exact wpAny_truthy_bool hq2
  · have e : (List.range its.toArray.size).all (fun i => (bs[i]?).getD true) = bs.all id := by
      rw [show its.toArray.size = bs.length by simp; omega]
      exact all_range bs _ fun i b h => by rw [h]; rfl
    rw [e]
    refine ⟨.bl _, H, I.kept (t' := tk) fun b o e1 => kk b o (fun hb => ?_) (Heap.get?_push_of_some _ e1), rfl, q⟩
    have hb := List.mem_singleton.mp hb
    exact absurd (Heap.lt_size e1) (by rw [hb]; exact Nat.lt_irrefl _)
theorem rl_int : RelV (.ty "int") (.type "int") := rfl
theorem rl_bool : RelV (.ty "bool") (.type "bool") := rfl
theorem bt_int : bootBuiltins "int" = some (.type "int") := by decide +kernel
theorem bt_bool : bootBuiltins "bool" = some (.type "bool") := by decide +kernel
theorem bt_isi : bootBuiltins "isinstance" = some (.builtin "isinstance") := by decide +kernel
theorem bt_all : bootBuiltins "all" = some (.builtin "all") := by decide +kernel

/-! ### xs[::-1] -/
def tRev (K : PySem.W.Frag) (te : TE) : TE := fun σ H Q => te σ H fun x H1 => ∃ a xs, x = .ref a ∧ SqL K H1 a xs ∧ ∀ p, H1 p = none → Q (.ref p) (upd H1 p (.lst xs.reverse))
/-! ### list + list, of any list that is read -/
def rCatS (K : PySem.W.Frag) : R2 := fun x y H Q => ∃ a b xs ys, x = .ref a ∧ y = .ref b ∧ SqL K H a xs ∧ SqL K H b ys ∧ xs.length + ys.length ≤ sizeLine ∧ ∀ p, H p = none → Q (.ref p) (upd H p (.lst (xs ++ ys)))
theorem op_catS : OpR X (binaryOp .Add) (rCatS X.K) := by
  intro pins s σ H x y v u Q I rx ry h
  obtain ⟨a, b, xs, ys, rfl, rfl, hq, hq2, hz, q⟩ := h
  cases rx
  cases ry
  obtain ⟨its, rv, p, _⟩ := I.list hq
  obtain ⟨its2, rv2, p2, _⟩ := I.list hq2
  have e1 := rv.length
  have e2 := rv2.length
  obtain ⟨⟨cls, dd, data, sl⟩, ho, hc, n, hd⟩ := id p.isList
  obtain ⟨⟨cls2, dd2, data2, sl2⟩, ho2, hc2, n2, hd2⟩ := id p2.isList
  simp only at hc hd hc2 hd2
  subst hc hd hc2 hd2
  have ea : its.toArray ++ its2.toArray = (its ++ its2).toArray := by simp
  refine concat_meets ⟨_, ho, rfl⟩ ⟨_, ho2, rfl⟩ noFill_list_add seq_list_add PySem.F.slot_list_add PySem.F.entry_list_add (PySem.F.args_list_add_2 _ _) (list_addW a b its.toArray its2.toArray n n2 dd dd2 sl sl2 (by rw [List.size_toArray, List.size_toArray]; omega)) ⟨ho, ho2, ?_⟩
  rw [ea]
  exact ⟨.ref _, _, I.lnew (t' := s.toks) (rv.append rv2) (by rw [List.length_append]; omega), rfl, q _ I.fresh⟩

/-! ### products of any size that is let by -/
theorem op_mulB : OpR X (binaryOp .Mult) (rI IntMulOk fun i j => .int (i * j)) := opI fun _ _ _ _ _ _ _ hc q => mul_int q hc
/-- // by a positive divisor of below 9000 bits -/
theorem op_fdivB : OpR X (binaryOp .FloorDiv) (rI (fun _ j => 0 < j ∧ j.natAbs.log2 < 9000) fun i j => .int (i / j)) := opI fun i j _ _ _ _ _ hc q => by
  have e : i.fdiv j = i / j := Int.fdiv_eq_ediv_of_nonneg _ (Int.le_of_lt hc.1)
  exact floordiv_int (by have := hc.1; omega) (by rw [e]; exact q) (.inl (PyProof.noPylong_of_log2 hc.2))
end

/-! ### the head, with the bound of the script's bits -/
theorem bits_script {ns : List Int} (h : PySem.W.WData.layableAll [PySem.W.WData.list (ns.map PySem.W.WData.int)] = true) : ∀ n ∈ ns, Builtin.Int.intBits n ≤ 2 ^ 20 := by
  intro n hn
  have h1 : (PySem.W.WData.list (ns.map PySem.W.WData.int)).layable = true := by
    have := List.all_eq_true.mp h _ List.mem_cons_self
    exact this
  have hw := (PySem.W.layableW_iff.mp h1).2.2
  have key : ∀ l : List Int, n ∈ l → Builtin.Int.intBits n ≤ PySem.W.WData.weightAll (l.map PySem.W.WData.int) := by
    intro l
    induction l with
    | nil => intro h; cases h
    | cons m r ih =>
      intro hm
      rw [List.map_cons, PySem.W.WData.weightAll]
      rcases List.mem_cons.mp hm with e | hm
      · subst e
        have : Builtin.Int.intBits n ≤ (PySem.W.WData.int n).weight := by
          simp only [PySem.W.WData.weight, Builtin.Int.intBits]
          omega
        omega
      · have := ih hm
        omega
  have h2 := key ns hn
  rw [PySem.W.WData.weight] at hw
  omega
end L2

namespace Att
open PySem PySem.W PyProof.Rows PySem.Calls
theorem attach_callB {l : OpenLaw} {n : Nat} {q : Program} {loose : List Str} {XP : (Str → Option Value) → Heap → Prop} {YP : World → Heap → Prop} {d : DefRec}
    (hn : l.most = some n) (hdf : d.params.defaults = [])
    (call : ∀ (w : World) (s₀ s₁ : Shared) (mg mb : Str → Option Value) (fa : Addr) (o : Obj) (pm cd doc : Value) (a : Addr) (vs : List Value) (ns : List Int),
      Ground q loose [] XP w s₀ mg mb s₁.heap → YP w s₁.heap →
      s₁.heap.get? fa = some o → o.data = .func (docDef d.name d.params d.body d.scope pm cd doc) → s₁.heap.CodeRec cd d.name → mg d.name = some (.ref fa) →
      s₁.heap.get? a = some { cls := .type "list", data := .seq vs.toArray } → IntsAre vs ns → ns.length ≤ n → (∀ m ∈ ns, Builtin.Int.intBits m ≤ 2 ^ 20) → s₁.gens = #[] →
      codeAny (model l.prog w) callerA (.call (.ref fa) ⟨[.ref a], []⟩) (fun r s' => r = .ok (.ret (.bool true)) ∧ OldK s₁.heap s'.heap ∧ s'.os = s₁.os ∧ AllBare s'.gens) s₁) :
    WalkO q loose XP YP l.row.toRowW d [] (fun f vs => PySem.call f vs) := by
  intro w s₀ s₁ mg mb G Y fa o pm cd doc dV kV ho hd hcd hD hmg hg args vals as hpre hlay hrd hwl hlo
  obtain rfl : dV = .none := Dflts.none hD hdf
  obtain rfl : kV = .none := Dflts.noKw hD
  obtain ⟨a, vs, ns, rfl, rfl, hobj, hints, hlen⟩ := script_of hn hpre hwl
  refine enter_call (codeAny_mono (call w s₀ s₁ mg mb fa o pm cd doc a vs ns G Y ho (fd_plain hd) hcd hmg hobj hints hlen (L2.bits_script hlay) hg) fun r s' hq => ?_)
  obtain ⟨rfl, h2, h3, h4⟩ := hq
  exact ⟨.inl ⟨.bool true, .bool true, [], rfl, fun _ => rfl, .bool true, post_true l _, fun _ => ⟨List.Pairwise.nil, fun _ hm => (nomatch hm)⟩⟩, h2, h3, h4⟩
end Att

namespace L2
open PySem PySem.Spec PyProof.Rows
theorem walk_ofB {l : PySem.W.OpenLaw} {n k : Nat} {q : Program} {loose : List Str} {XP : (Str → Option Value) → Heap → Prop} {YP : World → Heap → Prop} {d : DefRec} {K : Params → PySem.W.Frag} {CX : World → CXT} {sp : World → Sp} {x : Str}
    (hn : l.most = some n) (hn2 : n ≤ sizeLine) (hdf : d.params.defaults = []) (hr : Room k callerA)
    (hY : ∀ (w : World) (h : Heap), YP w h → (K w.params).In h)
    (F : ∀ (w : World) (mg : Str → Option Value) (fa : Addr) (h : Heap), (K w.params).In h → h.Ns mainGlobals mg → mg d.name = some (.ref fa) →
      ∃ fd : FuncData, (∀ (s : Shared) (u : Value), BindsTo s fd ⟨[u], []⟩ [(x, u)]) ∧
        ∀ base : Heap, (K w.params).In base → base.Ns mainGlobals mg → FnOk l.prog w (K w.params) mg base (CX w) k fa fd [x] (sp w))
    (hsp : ∀ (w : World) (H : Hp) (a : Addr) (ns : List Int), ns.length ≤ n → (∀ m ∈ ns, Builtin.Int.intBits m ≤ 2 ^ 20) → Only H → SqL (K w.params) H a (ns.map V.int) → sp w [.ref a] H (fun v _ => v = .bl true) fun _ _ _ => False)
    (hCX : ∀ (w : World) (H : Hp) (s : Shared) (e : Value) (s' : Shared), CX w [] H s (fun _ _ _ => False) e s' → False) :
    PySem.W.WalkO q loose XP YP l.row.toRowW d [] (fun f vs => PySem.call f vs) := by
  refine Att.attach_callB hn hdf fun w s₀ s₁ mg mb fa o pm cd doc a vs ns G Y ho hd hcd hmg hobj hints hlen hbits hg => ?_
  have KX := hY w _ Y
  obtain ⟨fd, hb, hF⟩ := F w mg fa _ KX G.T.g hmg
  exact law_call KX G.T.g G.T.b G.T.builtins G.T.nolimit hg hobj hints (Nat.le_trans hlen hn2) hr hF hb (fun H hO hS => hsp w H a ns hlen hbits hO hS) fun H e s' => hCX w H s₁ e s'
end L2

end

section
set_option Elab.async false
set_option linter.all false
set_option maxRecDepth 100000
set_option maxHeartbeats 4000000
namespace L2
open PySem PySem.Spec PyProof.Rows

/-! ### the forms one uses, of comprehensions -/
section
variable {K : PySem.W.Frag} {g : TG} {tf : TT} {te : TE} {Q : List V → Hp → Prop} {σ : St} {H : Hp}
theorem comp_range {lo : Int} {n : Nat} (Pv : Nat → List V → St → Hp → Prop) (hn : n ≤ sizeLine) (h0 : Pv 0 [] σ H) (hz : ∀ i ys σ H, Pv i ys σ H → ys.length ≤ i)
    (hs : ∀ i ys σ H, i < n → Pv i ys σ H → g (.int (lo + i)) σ H fun σ2 H2 => tf σ2 H2 fun b H3 => if b = true then te σ2 H3 fun y H4 => Pv (i + 1) (ys ++ [y]) σ2 H4 else Pv (i + 1) ys σ2 H3)
    (hd : ∀ ys σ H, Pv n ys σ H → Q ys H) : CompW (Itr lo n) g tf te Q σ H := by
  refine ⟨fun i m ys σ H => m = n - i ∧ i ≤ n ∧ Pv i ys σ H, ⟨n, by simp, Nat.zero_le _, h0⟩, ?_⟩
  rintro i m ys σ H ⟨rfl, hi, p⟩
  have hl := hz i ys σ H p
  by_cases hlt : i < n
  · refine .inr ⟨hlt, by omega, Pv (i + 1), fun ys' σ' H' p' => ⟨n - (i + 1), by omega, rfl, hlt, p'⟩, fun x H' y => ?_⟩
    obtain ⟨e, y⟩ := y
    subst e y
    exact hs i ys σ _ hlt p
  · have e : i = n := by omega
    subst e
    exact .inl ⟨Nat.le_refl _, by omega, hd ys σ H p⟩
theorem comp_list {a : Addr} {xs : List V} (Pv : Nat → List V → St → Hp → Prop) (hn : xs.length ≤ sizeLine) (h0 : Pv 0 [] σ H) (hl : ∀ i ys σ H, i ≤ xs.length → Pv i ys σ H → SqL K H a xs ∧ ys.length ≤ i)
    (hs : ∀ i x ys σ H, xs[i]? = some x → Pv i ys σ H → g x σ H fun σ2 H2 => tf σ2 H2 fun b H3 => if b = true then te σ2 H3 fun y H4 => Pv (i + 1) (ys ++ [y]) σ2 H4 else Pv (i + 1) ys σ2 H3)
    (hd : ∀ ys σ H, Pv xs.length ys σ H → Q ys H) : CompW (Itl K a) g tf te Q σ H := by
  refine ⟨fun i m ys σ H => m = xs.length - i ∧ i ≤ xs.length ∧ Pv i ys σ H, ⟨xs.length, by simp, Nat.zero_le _, h0⟩, ?_⟩
  rintro i m ys σ H ⟨rfl, hi, p⟩
  obtain ⟨q, hz⟩ := hl i ys σ H hi p
  by_cases hlt : i < xs.length
  · refine .inr ⟨⟨xs, xs[i], q, by simp [hlt]⟩, by omega, Pv (i + 1), fun ys' σ' H' p' => ⟨xs.length - (i + 1), by omega, rfl, hlt, p'⟩, fun x H' y => ?_⟩
    obtain ⟨e, y⟩ := y
    subst e
    exact hs i x ys σ _ (y xs q) p
  · have e : i = xs.length := by omega
    subst e
    exact .inl ⟨⟨xs, q, Nat.le_refl _⟩, by omega, hd ys σ H p⟩
end
/-- a pair's target -/
theorem g_pair {K : PySem.W.Frag} {i j : Nat} {T : Addr} {x y : V} {σ : St} {H : Hp} {Q : St → Hp → Prop} (h : Q ((σ.set i (some x)).set j (some y)) (upd H T (.tup [x, y]))) :
    gTup K 2 (gCons (gName i) (gCons (gName j) gNil)) (.ref T) σ (upd H T (.tup [x, y])) Q :=
  ⟨T, [x, y], rfl, SqT.of upd_same, rfl, x, [y], rfl, y, [], rfl, rfl, h⟩
/-- over a list's enumeration, that the body leaves as it is -/
theorem for_enum {K : PySem.W.Frag} {a : Addr} {xs : List V} {g : TG} {tb : TS} {D : Ends} {σ : St} {H : Hp} (Pv : Nat → St → Hp → Prop) (h0 : Pv 0 σ H) (hl : ∀ i σ H, i ≤ xs.length → Pv i σ H → SqL K H a xs)
    (hs : ∀ i x T σ H, xs[i]? = some x → H T = none → Pv i σ H → g (.ref T) σ (upd H T (.tup [.int i, x])) fun σ2 H2 => tb { D with nx := Pv (i + 1), ct := Pv (i + 1), bk := D.nx } σ2 H2) (hd : ∀ σ H, Pv xs.length σ H → D.nx σ H) :
    ∃ W : Nat → Nat → St → Hp → Prop, (∃ m, W 0 m σ H) ∧ ∀ i m σ H, W i m σ H →
      ((Ite K a).stop i H ∧ D.nx σ H) ∨ ((Ite K a).go i H ∧ ∃ N : St → Hp → Prop, (∀ σ' H', N σ' H' → ∃ m', m' < m ∧ W (i + 1) m' σ' H') ∧ ∀ x H', (Ite K a).yld i H x H' → g x σ H' fun σ2 H2 => tb { D with nx := N, ct := N, bk := D.nx } σ2 H2) := by
  refine ⟨fun i m σ H => m = xs.length - i ∧ i ≤ xs.length ∧ Pv i σ H, ⟨xs.length, by simp, Nat.zero_le _, h0⟩, ?_⟩
  rintro i m σ H ⟨rfl, hi, p⟩
  have q := hl i σ H hi p
  by_cases hlt : i < xs.length
  · refine .inr ⟨⟨xs, xs[i], q, by simp [hlt]⟩, Pv (i + 1), fun σ' H' p' => ⟨xs.length - (i + 1), by omega, rfl, hlt, p'⟩, fun v H' y => ?_⟩
    obtain ⟨T, x, hT, rfl, rfl, y⟩ := y
    exact hs i x T σ _ (y xs q) hT p
  · have e : i = xs.length := by omega
    subst e
    exact .inl ⟨⟨xs, q, Nat.le_refl _⟩, hd σ H p⟩
end L2

end

section
set_option Elab.async false
set_option linter.all false
set_option maxRecDepth 100000
namespace Cb
open PySem

/-! ### bits -/
def bitsL : Nat → Nat → List Nat
  | _, 0 => []
  | n, m + 1 => (n % 2) :: bitsL (n / 2) m
def num : List Nat → Nat
  | [] => 0
  | b :: r => b + 2 * num r
def Bit (l : List Nat) : Prop := ∀ b ∈ l, b ≤ 1
/-! ### how many ones, the single ones -/
def ones : Nat → Nat
  | 0 => 0
  | n + 1 => (n + 1) % 2 + ones ((n + 1) / 2)
decreasing_by omega
def sgl : Nat → List Nat
  | 0 => []
  | n + 1 => if (n + 1) % 2 = 1 then 1 :: (sgl ((n + 1) / 2)).map (2 * ·) else (sgl ((n + 1) / 2)).map (2 * ·)
decreasing_by all_goals omega
/-! ### the machine's & on numbers from 0 on -/
theorem band (a b : Nat) : Builtin.bitAnd (a : Int) (b : Int) = ((a &&& b : Nat) : Int) := by
  unfold Builtin.bitAnd
  simp
end Cb

end

section
set_option Elab.async false
set_option linter.all false
set_option maxRecDepth 100000
set_option maxHeartbeats 4000000
namespace L2
open PySem PySem.Spec PyProof.Rows

/-! ### the names of a comprehension, by computation -/
def srcOk (N : List Str) (names : List (Str × NameKind)) : List (Option Nat) → List Str → Bool
  | [], [] => true
  | none :: r, _ :: s => srcOk N names r s
  | some i :: r, x :: s => (N[i]? == some x) && (names.lookup x == some .free) && srcOk N names r s
  | _, _ => false
def ndOk : List (Str × NameKind) → Bool
  | [] => true
  | x :: r => (r.all fun y => x.1 != y.1) && ndOk r
def compCheck (N : List Str) (osc : Scope) (Nc : List Str) (src : List (Option Nat)) (scope : Scope) : Bool :=
  scope.kind == .function && (scope.names.all fun x => x.2 != .cell) && ndOk scope.names &&
  (scope.names.all fun x => x.2 != .free || osc.names.lookup x.1 == some .cell || osc.names.lookup x.1 == some .free) && srcOk N scope.names src Nc
theorem srcOk_len {N : List Str} {names : List (Str × NameKind)} : ∀ {src : List (Option Nat)} {Nc : List Str}, srcOk N names src Nc = true → src.length = Nc.length
  | [], [], _ => rfl
  | none :: r, _ :: s, h => by simp only [List.length_cons]; rw [srcOk_len (src := r) (Nc := s) h]
  | some i :: r, x :: s, h => by
    simp only [srcOk, Bool.and_eq_true] at h
    simp only [List.length_cons]; rw [srcOk_len h.2]
  | [], _ :: _, h => by simp [srcOk] at h
  | none :: _, [], h => by simp [srcOk] at h
  | some _ :: _, [], h => by simp [srcOk] at h
theorem srcOk_src {N : List Str} {names : List (Str × NameKind)} : ∀ {src : List (Option Nat)} {Nc : List Str}, srcOk N names src Nc = true → ∀ (j i : Nat), src[j]? = some (some i) → ∃ x, Nc[j]? = some x ∧ N[i]? = some x ∧ names.lookup x = some .free
  | [], [], _, j, i, e => by simp at e
  | none :: r, y :: s, h, 0, i, e => by simp at e
  | none :: r, y :: s, h, j + 1, i, e => by
    have := srcOk_src (src := r) (Nc := s) h j i (by simpa using e)
    simpa using this
  | some k :: r, x :: s, h, 0, i, e => by
    simp only [srcOk, Bool.and_eq_true, beq_iff_eq] at h
    simp only [List.getElem?_cons_zero, Option.some.injEq] at e
    subst e
    exact ⟨x, rfl, h.1.1, h.1.2⟩
  | some k :: r, x :: s, h, j + 1, i, e => by
    simp only [srcOk, Bool.and_eq_true] at h
    have := srcOk_src (src := r) (Nc := s) h.2 j i (by simpa using e)
    simpa using this
  | [], _ :: _, h, _, _, _ => by simp [srcOk] at h
  | none :: _, [], h, _, _, _ => by simp [srcOk] at h
  | some _ :: _, [], h, _, _, _ => by simp [srcOk] at h
theorem ndOk_nd : ∀ {l : List (Str × NameKind)}, ndOk l = true → l.Pairwise fun x y => x.1 ≠ y.1
  | [], _ => .nil
  | x :: r, h => by
    simp only [ndOk, Bool.and_eq_true, List.all_eq_true, bne_iff_ne] at h
    exact .cons h.1 (ndOk_nd h.2)
theorem compOk_of {N : List Str} {osc : Scope} {Nc : List Str} {src : List (Option Nat)} {scope : Scope} (h : compCheck N osc Nc src scope = true) : CompOk N osc Nc src scope := by
  simp only [compCheck, Bool.and_eq_true, beq_iff_eq, List.all_eq_true, bne_iff_ne] at h
  obtain ⟨⟨⟨⟨h1, h2⟩, h3⟩, h4⟩, h5⟩ := h
  refine ⟨h1, h2, ndOk_nd h3, fun x hx hf => ?_, srcOk_len h5, srcOk_src h5⟩
  have := h4 x hx
  simp only [Bool.or_eq_true, bne_iff_ne, beq_iff_eq] at this
  rcases this with (z | z) | z
  · exact absurd hf z
  · exact .inl z
  · exact .inr z

/-! ### what is called, by its name -/
structure Cal (P : Program) (w : World) (K : PySem.W.Frag) (mg : Str → Option Value) (base : Heap) (k : Nat) (x : Str) (ps : List Str) (sp : Sp) : Prop where
  ex : ∃ f fd, FnOk P w K mg base CX0 k f fd ps sp ∧ mg x = some (.ref f) ∧ PySem.W.keepIn K (.ref f) = true ∧ Binds K fd ps []
structure CalK (P : Program) (w : World) (K : PySem.W.Frag) (mg : Str → Option Value) (base : Heap) (k : Nat) (x : Str) (ps ks : List Str) (sp : Sp) (gV : List V → List V → List V) : Prop where
  ex : ∃ f fd g, FnOk P w K mg base CX0 k f fd ps sp ∧ mg x = some (.ref f) ∧ PySem.W.keepIn K (.ref f) = true ∧ KBinds K fd ps ks g gV
section
variable {X : Cx} {k : Nat} {ps ks : List Str} {sp : Sp} {x : Str} {p pos : Pos} {e : Expr} {es : List Expr} {t tk : TA} {kws : List Keyword} {gV : List V → List V → List V}
theorem pe_cal (C : Cal X.prog X.w X.K X.mg X.base k x ps sp) (hr : Room k X.A) (hg : Gl X x) (ha : PA X (e :: es) t) (hdb : (x == ("__debug__" : Str)) = false := by decide)
    (he : starEach (e :: es) X.env = (false, eval e X.env) :: starEach es X.env := by rfl) (hpl : (backTo pos (starEach es X.env)).any (·.1) = false := by rfl) : PE X (.Call (.Name x p) (e :: es) [] pos) (tCall sp [] E0 t) := by
  obtain ⟨f, fd, F, hm, hk, hb⟩ := C.ex
  exact pe_call F hr hg hm hk hb .nil pass0 ha hdb he hpl
end
def kw0 {α : Type} (us zs : List α) : List α := match us with
  | [] => zs
  | _ => []
def sw2 {α : Type} (us zs : List α) : List α := match us, zs with
  | [], [a, b] => [b, a]
  | _, _ => []
end L2

namespace Cb
open PySem L2
/-! ### heaps -/
/-- all that was tracked, but p, is as it was -/
def KeepP (p : Addr) (H H' : Hp) : Prop := ∀ b o, b ≠ p → H b = some o → H' b = some o
theorem KeepP.trans {p : Addr} {H H1 H2 : Hp} (a : KeepP p H H1) (b : KeepP p H1 H2) : KeepP p H H2 := fun c o n h => b c o n (a c o n h)
theorem KeepP.of {p : Addr} {H H' : Hp} (h : Same H H') : KeepP p H H' := fun b o _ e => h b o e
theorem same_new {H : Hp} {p : Addr} {o : HO} (h : H p = none) : Same H (upd H p o) := fun b u e => by rw [upd_ne (ne_of_none e h)]; exact e
/-- the numbers of a list -/
def vN (l : List Nat) : List V := l.map fun (b : Nat) => V.int (b : Int)
theorem vN_length (l : List Nat) : (vN l).length = l.length := List.length_map ..
theorem vN_snoc (l : List Nat) (b : Nat) : vN (l ++ [b]) = vN l ++ [V.int (b : Int)] := by simp [vN]
theorem vN_get {l : List Nat} {i : Nat} {x : V} (h : (vN l)[i]? = some x) : ∃ b, l[i]? = some b ∧ x = V.int (b : Int) := by
  unfold vN at h
  rw [List.getElem?_map] at h
  cases e : l[i]? with
  | none => rw [e] at h; cases h
  | some b => rw [e] at h; exact ⟨b, rfl, (Option.some.inj h).symm⟩
def BIG : Int := 10 ^ 40 + 121
/-- a feed: three numbers, of which the third one is at most n -/
def FeedAt (H : Hp) (p : Addr) (n : Nat) : Prop := ∃ a b c : Int, H p = some (.lst [.int a, .int b, .int c]) ∧ 0 ≤ a ∧ 0 ≤ b ∧ b < BIG ∧ 0 ≤ c ∧ c ≤ n
/-! ### the promises of the common defs -/
def spPick : Sp := fun vs H Q _ => ∃ (p : Addr) (m : Int) (n : Nat), vs = [.ref p, .int m] ∧ FeedAt H p n ∧ n < 2 ^ 40 ∧ 0 < m ∧ m ≤ 2 ^ 64 ∧
  ∀ (r : Nat) (H' : Hp), (r : Int) < m → FeedAt H' p (n + 1) → (∀ b, b ≠ p → H' b = H b) → Q (.int (r : Int)) H'
def spFeed : Sp := fun vs H Q _ => ∃ c : Int, vs = [.int c] ∧ Builtin.Int.intBits c ≤ 2 ^ 20 ∧ ∀ (p : Addr) (H' : Hp), H p = none → FeedAt H' p 0 → Same H H' → Q (.ref p) H'
def spBits : Sp := fun vs H Q _ => ∃ (n m : Nat), vs = [.int (n : Int), .int (m : Int)] ∧ m ≤ 1000 ∧ ∀ (p : Addr) (H' : Hp), H p = none → H' p = some (.lst (vN (bitsL n m))) → Same H H' → Q (.ref p) H'
def spNum (K : PySem.W.Frag) : Sp := fun vs H Q _ => ∃ (p : Addr) (l : List Nat), vs = [.ref p] ∧ SqL K H p (vN l) ∧ ∀ H', Same H H' → Q (.int (num l : Int)) H'
def spMask : Sp := fun vs H Q _ => ∃ (p : Addr) (m n : Nat), vs = [.ref p, .int (m : Int)] ∧ FeedAt H p n ∧ n + 1000 < 2 ^ 40 ∧ 1 ≤ m ∧ m ≤ 64 ∧
  ∀ (v : Nat) (H' : Hp), v < 2 ^ m → FeedAt H' p (n + 1000) → KeepP p H H' → Q (.int (v : Int)) H'
def spWhole : Sp := fun vs H Q _ => ∃ a b : Int, vs = [.int a, .int b] ∧ Q (.bl (decide (a = b))) H
/-- _law_right's: a feed of few draws -/
def spRight : Sp := fun vs H Q _ => ∃ p : Addr, vs = [.ref p] ∧ FeedAt H p 0 ∧ ∀ H', KeepP p H H' → Q (.bl true) H'
def spLaw (K : PySem.W.Frag) : Sp := fun vs H Q _ => ∃ (a : Addr) (ns : List Int), vs = [.ref a] ∧ SqL K H a (ns.map V.int) ∧ ns.length ≤ 63 ∧ (∀ m ∈ ns, Builtin.Int.intBits m ≤ 2 ^ 20) ∧ ∀ H', Q (.bl true) H'
def spSingles : Sp := fun vs H Q _ => ∃ n : Nat, vs = [.int (n : Int)] ∧ n < 2 ^ 64 ∧ ∀ (p : Addr) (H' : Hp), H p = none → H' p = some (.lst (vN (sgl n))) → Same H H' → Q (.ref p) H'
def spOnes : Sp := fun vs H Q _ => ∃ n : Nat, vs = [.int (n : Int)] ∧ n < 2 ^ 64 ∧ ∀ H', Same H H' → Q (.int (ones n : Int)) H'
end Cb

end

section
set_option Elab.async false
set_option linter.all false
set_option maxRecDepth 100000
set_option maxHeartbeats 4000000
namespace L2
open PySem PySem.Spec PyProof.Rows
/-! ### the rules that speak of the written part, with it named (inside a comprehension) -/
section
variable {X : Cx} {K : PySem.W.Frag}
theorem pg_tupE (n : Nat) (hK : X.K = K) {es : List Expr} {k : Nat} {t : TGs} {pos : Pos} (hc : X.calm = true) (h : PGs X es t)
    (hn : (assignEach es X.env).length = n := by rfl) (hst : (assignEach es X.env).findIdx? (·.1) = none := by rfl) : PG X (.Tuple es k pos) (gTup K n t) := by
  subst hK; exact pg_tup hc h hn hst
theorem ix_tupE (hK : X.K = K) : IxR X (rIxT K) := by subst hK; exact ix_tup
end
end L2

end

section
set_option Elab.async false
set_option linter.all false
set_option maxRecDepth 100000
set_option maxHeartbeats 4000000
namespace L2
open PySem PySem.Spec PyProof.Rows
/-! ### zip of three lists -/
abbrev Trip (h : Heap) (T : Addr) (a b c : Value) : Prop := h.get? T = some { cls := .type "tuple", data := .seq #[a, b, c] }
structure Far3 (z TO i1 i2 i3 : Addr) : Prop where
  oz : TO ≠ z
  az : i1 ≠ z
  bz : i2 ≠ z
  cz : i3 ≠ z
  oa : TO ≠ i1
  ob : TO ≠ i2
  oc : TO ≠ i3
  ab : i1 ≠ i2
  ac : i1 ≠ i3
  bc : i2 ≠ i3
/-- a list is none of the zip's own objects -/
structure FarL (z TO i1 i2 i3 l : Addr) : Prop where
  z : l ≠ z
  o : l ≠ TO
  a : l ≠ i1
  b : l ≠ i2
  c : l ≠ i3
section
variable {prog : Program} {w : World} {A : Around} {E : Value → Shared → Prop} {s : Shared}
end
abbrev zA (h : Heap) (l : Addr) : Heap := h.push { cls := .type "list_iterator", data := .fields #[.ref l, .int 0 0] }
abbrev zB (h : Heap) (l1 l2 l3 : Addr) : Heap := (zA (zA (zA h l1) l2) l3).push { cls := .type "tuple", data := .seq #[.ref h.objs.size, .ref (zA h l1).objs.size, .ref (zA (zA h l1) l2).objs.size] }
abbrev zC (h : Heap) (l1 l2 l3 : Addr) : Heap := (zB h l1 l2 l3).push { cls := .type "tuple", data := .seq #[.none, .none, .none] }
abbrev zD (h : Heap) (l1 l2 l3 : Addr) : Heap := (zC h l1 l2 l3).push { cls := .type "zip", data := .fields #[.none, .bool false, .bool false, .ref (zA (zA (zA h l1) l2) l3).objs.size, .ref (zB h l1 l2 l3).objs.size] }
end L2

end

section
set_option Elab.async false
set_option linter.all false
set_option maxRecDepth 100000
set_option maxHeartbeats 4000000
namespace L2
open PySem PySem.Spec PyProof.Rows
def Itz3 (K : PySem.W.Frag) (a b c : Addr) : It :=
  ⟨fun i H => ∃ xs x ys y us u, SqL K H a xs ∧ SqL K H b ys ∧ SqL K H c us ∧ xs[i]? = some x ∧ ys[i]? = some y ∧ us[i]? = some u,
   fun i H v H' => ∃ T x y u, H T = none ∧ v = .ref T ∧ H' = upd H T (.tup [x, y, u]) ∧ (∀ xs, SqL K H a xs → xs[i]? = some x) ∧ (∀ ys, SqL K H b ys → ys[i]? = some y) ∧ ∀ us, SqL K H c us → us[i]? = some u,
   fun i H => ∃ xs, SqL K H a xs ∧ xs.length ≤ i⟩
def iZip3 (K : PySem.W.Frag) (ta : TA) : TI := fun σ H R => ta σ H fun vs H1 => ∃ a b c, vs = [.ref a, .ref b, .ref c] ∧ (∃ xs, SqL K H1 a xs) ∧ (∃ ys, SqL K H1 b ys) ∧ (∃ us, SqL K H1 c us) ∧ R (Itz3 K a b c) H1
end L2

end

section
set_option Elab.async false
set_option linter.all false
set_option maxRecDepth 100000
set_option maxHeartbeats 4000000
namespace L2
open PySem PySem.Spec PyProof.Rows Builtin

/-! ### a def with defaults -/
structure FunD (K : PySem.W.Frag) (x qual : Str) (st : Stmt) (dV : Value) (f : Addr) (fd : FuncData) : Prop where
  ex : ∃ (oc : Value) (od : Option Addr) (kV doc pm : Value) (an : Option Addr) (cdv ct : Value) (osl : Array (Option Value)),
    fd = PySem.W.fnOf x qual (defArgs st) (defBody st) (defScope st) dV kV doc pm an cdv ct ∧ K.lookup f = some ⟨oc, od, .func fd, osl⟩ ∧ PySem.W.codeIn K cdv qual = true
  kp : PySem.W.keepIn K (.ref f) = true
section
variable {P : Program} {w : World} {K : PySem.W.Frag} {mg : Str → Option Value} {base : Heap}
theorem FunD.ok {x qual : Str} {st : Stmt} {dV : Value} {f : Addr} {fd : FuncData} {N ps : List Str} {k : Nat} {sp : Sp} (F : FunD K x qual st dV f fd) (S : FnScope N ps (defScope st)) (len : ∀ vs H Q E, sp vs H Q E → vs.length = ps.length)
    (hbody : ∀ (cdv : Value) (A : Around) (outer : List Env) (s : Shared) (H : Hp) (vs : List V) (Q : VK) (E : XK), Room k (A.deeper (envOfC qual (defScope st) s.heap.objs.size f cdv)) → sp vs H Q E →
      ∃ t, PSs (cxOf CX0 P w K mg base N qual (defScope st) f cdv A outer s H E).nox (defBody st) t ∧ t { nx := fun _ H' => Q .non H', rt := Q } (start N vs) H) : FnOk P w K mg base CX0 (k + 1) f fd ps sp := by
  obtain ⟨oc, od, kV, doc, pm, an, cdv, ct, osl, rfl, lk, hcd⟩ := F.ex
  refine fn_of lk hcd S len fun A outer s H vs Q E hr hsp => ?_
  obtain ⟨t, h, q⟩ := hbody cdv A outer s H vs Q E hr hsp
  exact ⟨t, h.nox, q⟩
theorem funD_mk {x qual : Str} {st : Stmt} {dV : Value} {f : Addr} {oc : Value} {od an : Option Addr} {osl : Array (Option Value)} {kV doc pm cdv ct : Value} (l : K.lookup f = some ⟨oc, od, .func (PySem.W.fnOf x qual (defArgs st) (defBody st) (defScope st) dV kV doc pm an cdv ct), osl⟩)
    (c : PySem.W.codeIn K cdv qual = true) (k : PySem.W.keepIn K (.ref f) = true) : FunD K x qual st dV f (PySem.W.fnOf x qual (defArgs st) (defBody st) (defScope st) dV kV doc pm an cdv ct) := ⟨⟨oc, od, kV, doc, pm, an, cdv, ct, osl, rfl, l, c⟩, k⟩
theorem FunD.kbinds {x qual : Str} {st : Stmt} {T : Addr} {o : Obj} {items : Array Value} {n : Nat} {f : Addr} {fd : FuncData} {ps ks : List Str} {g : List Value → List Value → List Value} {gV : List V → List V → List V} (F : FunD K x qual st (.ref T) f fd)
    (ho : K.lookup T = some o) (hs : o.data = .seq items n)
    (h : ∀ (kV doc pm : Value) (an : Option Addr) (cdv ct : Value) (us ws : List Value), (g us ws).length = ps.length → ∃ q, bindArgs (PySem.W.fnOf x qual (defArgs st) (defBody st) (defScope st) (.ref T) kV doc pm an cdv ct) ⟨us, ks.zip ws⟩ = seqItems? (.ref T) >>= q ∧ q (some items) = pure (ps.zip (g us ws)))
    (rel : ∀ {vs : List V} {us : List Value} {zs : List V} {ws : List Value}, Vals vs us → Vals zs ws → Vals (gV vs zs) (g us ws)) : KBinds K fd ps ks g gV := by
  obtain ⟨oc, od, kV, doc, pm, an, cdv, ct, osl, rfl, lk, hcd⟩ := F.ex
  refine ⟨fun s us ws X hl => ?_, rel⟩
  obtain ⟨q, h1, h2⟩ := h kV doc pm an cdv ct us ws hl
  exact PySem.W.binds_K X rfl ho hs h1 h2
theorem KBinds.pos {fd : FuncData} {ps : List Str} (b : Binds K fd ps []) : KBinds K fd ps [] (fun us _ => us) (fun vs _ => vs) :=
  ⟨fun s us ws X hl => by have := b s us X (by rw [List.append_nil]; exact hl); rw [List.append_nil] at this; exact this, fun r _ => r⟩
end
/-- keywords behind what stands by place, then the defaults -/
def appD {α : Type} (ds : List α) (us zs : List α) : List α := us ++ (zs ++ ds)
def swS {α : Type} (us zs : List α) : List α := match zs with
  | [a, b] => us ++ [b, a]
  | _ => []
/-! ### methods, whose class the reading tells -/
structure Mth (P : Program) (w : World) (K : PySem.W.Frag) (mg : Str → Option Value) (base : Heap) (k : Nat) (C : Addr) (m : Str) (ks : List Str) (gV : List V → List V → List V) (sp : Sp) : Prop where
  cls : Cls K C
  ex : ∃ f fd ps g, Meth K C m f ∧ FnOk P w K mg base CX0 k f fd ps sp ∧ KBinds K fd ps ks g gV
theorem Mth.mono {P : Program} {w : World} {K : PySem.W.Frag} {mg : Str → Option Value} {base : Heap} {j k : Nat} {C : Addr} {m : Str} {ks : List Str} {gV : List V → List V → List V} {sp : Sp} (M : Mth P w K mg base j C m ks gV sp) (h : j ≤ k) : Mth P w K mg base k C m ks gV sp := by
  obtain ⟨c, f, fd, ps, g, a, F, b⟩ := M
  exact ⟨c, f, fd, ps, g, a, F.mono h, b⟩
/-- o.m(.., k = v, ..) -/
def tMth (P : Program) (w : World) (K : PySem.W.Frag) (mg : Str → Option Value) (base : Heap) (k : Nat) (m : Str) (ks : List Str) (ta : TE) (t tk : TA) : TE := fun σ H Q => ta σ H fun x H1 => ∃ a C dx fs gV sp, x = .ref a ∧ H1 a = some (.ins C dx fs) ∧ Mth P w K mg base k C m ks gV sp ∧ fs.lookup m = none ∧
  t σ H1 fun vs H2 => tk σ H2 fun zs H3 => sp (gV (x :: vs) zs) H3 Q E0
section
variable {X : Cx} {k : Nat} {C : Addr} {ks : List Str} {x m : Str} {p pos apos : Pos} {e o : Expr} {es : List Expr} {kws : List Keyword} {ta : TE} {t tk : TA}
theorem pe_mth {P : Program} {w : World} {K : PySem.W.Frag} {mg : Str → Option Value} {base : Heap} (k : Nat) (hX : X.prog = P ∧ X.w = w ∧ X.K = K ∧ X.mg = mg ∧ X.base = base) (hr : Room k X.A) {pl : Sem Bool} (he : PE X o ta) (ha : PA X (e :: es) t)
    (hst : starEach (e :: es) X.env = (false, eval e X.env) :: starEach es X.env := by rfl) (hpl : (backTo pos (starEach es X.env)).any (·.1) = false := by rfl)
    (ht : eval (.Call (.Attribute o m apos) (e :: es) [] pos) X.env = (do
      let ov ← eval o X.env
      standAt apos.atName
      let (f, first) ← holding [ov] (getMethod ov m pl)
      callWith pos f first (backTo pos (starEach (e :: es) X.env)) (backToKw pos (keywordEach [] X.env))) := by rfl) :
    PE X (.Call (.Attribute o m apos) (e :: es) [] pos) (tMth P w K mg base k m [] ta t tNil) := by
  obtain ⟨rfl, rfl, rfl, rfl, rfl⟩ := hX
  intro pins s σ H Q I h
  refine PySem.W.methodCall_KW (pl := pl) (thn (he pins s σ H _ I h) fun u s1 ⟨x, H1, I1, rx, a, C, dx, fs, gV, sp, ex, ea, M, l, q⟩ => ?_) ht
  obtain ⟨c, f, fd, ps, g, hm, F, hb⟩ := M
  subst ex
  obtain rfl : u = Value.ref a := rx
  refine getmeth_ok I1 ea c hm l ?_
  refine PySem.W.callWith_K (first := [.ref a]) (h₀ := X.base) I.ok.mod.kin hm.kp (thn (ha pos pins s1 σ H1 _ I1 q) fun us s2 ⟨vs, H2, I2, r, q2⟩ => ⟨I2.kIn, ?_⟩) hst hpl
  exact run_fnk (us := .ref a :: us) (vs := .ref a :: vs) (ws := []) (zs := []) F hr hb pass0 I2 (.cons rfl r) .nil q2
theorem pe_mth0 {P : Program} {w : World} {K : PySem.W.Frag} {mg : Str → Option Value} {base : Heap} (k : Nat) (hX : X.prog = P ∧ X.w = w ∧ X.K = K ∧ X.mg = mg ∧ X.base = base) (hr : Room k X.A) {pl : Sem Bool} (he : PE X o ta)
    (ht : eval (.Call (.Attribute o m apos) [] [] pos) X.env = (do
      let ov ← eval o X.env
      standAt apos.atName
      let (f, first) ← holding [ov] (getMethod ov m pl)
      callWith pos f first (backTo pos (starEach [] X.env)) (backToKw pos (keywordEach [] X.env))) := by rfl) :
    PE X (.Call (.Attribute o m apos) [] [] pos) (tMth P w K mg base k m [] ta tNil tNil) := by
  obtain ⟨rfl, rfl, rfl, rfl, rfl⟩ := hX
  intro pins s σ H Q I h
  refine PySem.W.methodCall_KW (pl := pl) (thn (he pins s σ H _ I h) fun u s1 ⟨x, H1, I1, rx, a, C, dx, fs, gV, sp, ex, ea, M, l, q⟩ => ?_) ht
  obtain ⟨c, f, fd, ps, g, hm, F, hb⟩ := M
  subst ex
  obtain rfl : u = Value.ref a := rx
  refine getmeth_ok I1 ea c hm l ?_
  exact PySem.W.callWith_K0 (first := [.ref a]) I1.kIn hm.kp (run_fnk (us := [.ref a]) (vs := [.ref a]) (ws := []) (zs := []) F hr hb pass0 I1 (.cons rfl .nil) .nil q)
end

/-! ### len of an own object -/
def tLenO (P : Program) (w : World) (K : PySem.W.Frag) (mg : Str → Option Value) (base : Heap) (k : Nat) (ta : TE) : TE := fun σ H Q => ta σ H fun x H1 => ∃ a C dx fs gV sp, x = .ref a ∧ H1 a = some (.ins C dx fs) ∧ Mth P w K mg base k C "__len__" [] gV sp ∧
  sp (gV [x] []) H1 (fun v H2 => ∃ n : Int, v = .int n ∧ 0 ≤ n ∧ n < 2 ^ 63 ∧ Q (.int n) H2) E0
section
variable {X : Cx} {e : Expr} {p pos : Pos} {ta : TE}
def lenQ (X : Cx) (k : Nat) (Q : VK) (vs : List V) (H1 : Hp) : Prop := match vs with
  | [x] => ∃ a C dx fs gV sp, x = .ref a ∧ H1 a = some (.ins C dx fs) ∧ Mth X.prog X.w X.K X.mg X.base k C "__len__" [] gV sp ∧ sp (gV [x] []) H1 (fun v H2 => ∃ n : Int, v = .int n ∧ 0 ≤ n ∧ n < 2 ^ 63 ∧ Q (.int n) H2) E0
  | _ => False
/-- what a __len__ told -/
def LenIs (Q : Value → Shared → Prop) : Value → Shared → Prop
  | .int n _, s' => 0 ≤ n ∧ n < 2 ^ 63 ∧ Q (.int n s'.toks) { s' with toks := s'.toks + 1 }
  | _, _ => False
theorem lenOwn {prog : Program} {w : World} {A : Around} {E : Value → Shared → Prop} {s : Shared} {K : PySem.W.Frag} {a C f : Addr} {ob : Obj} {od : Option Obj} {Q : Value → Shared → Prop} (X : K.In s.heap) (I : PySem.W.InstAt s.heap a ob C od)
    (hs : PySem.W.findIn K (.ref C) "__len__" = some (some (.ref f))) (ht : PySem.W.typeIn K (.ref f) = some (.type "function"))
    (h : wpAny (model prog w) A.in1 (call (.ref f) [.ref a]) (LenIs Q) E s) : wpAny (model prog w) A (call (.builtin "len") [.ref a]) Q E s := by
  refine Calls.call_function_entry kind_len plain_len entry_len (args_len1 _) ?_
  delta Builtin.«len»
  refine wpAny_bind (m := oneArg "len" _) (wpAny_pure (wpAny_bind (m := callSpecial? (.ref a) (Str.ofString "__len__")) (PySem.W.special_fn X I hs ht (wpAny_mono h (fun r s' hr => ?_) (fun _ _ z => z)))))
  cases r with
  | int n t =>
    obtain ⟨h0, h1, hq⟩ := hr
    refine wpAny_bind (wpAny_holding (wpAny_pure (wpAny_bind (wpAny_letGo ?_))))
    have e1 : ¬ n < 0 := by omega
    have e2 : ¬ n ≥ 2 ^ 63 := by omega
    dsimp only
    rw [if_neg e1, if_neg e2]
    exact wpAny_bind (wpAny_mkInt (wpAny_pure ⟨_, rfl, hq⟩))
  | _ => exact hr.elim
theorem mtyp {K : PySem.W.Frag} {C f : Addr} {m : Str} (h : Meth K C m f) : PySem.W.typeIn K (.ref f) = some (.type "function") := beq_iff_eq.mp h.fn
theorem pe_lenO {P : Program} {w : World} {K : PySem.W.Frag} {mg : Str → Option Value} {base : Heap} (k : Nat) (hX : X.prog = P ∧ X.w = w ∧ X.K = K ∧ X.mg = mg ∧ X.base = base) (hr : Room (k + 1) X.A) (hg : Gl X "len") (hm : X.mg "len" = none) (he : PE X e ta)
    (hst : starEach [e] X.env = (false, eval e X.env) :: starEach [] X.env := by rfl) : PE X (.Call (.Name "len" p) [e] [] pos) (tLenO P w K mg base k ta) := by
  obtain ⟨rfl, rfl, rfl, rfl, rfl⟩ := hX
  intro pins s σ H Q I h
  refine wpAny_Call_Name_kw (ld_blt I hg hm PySem.boot_len ?_ (by decide) (by decide))
  refine PyProof.Rows.callWith_builtin1 (thn (pa_cons (t := tNil) he pa_nil hst pos pins s σ H (lenQ X k Q) I h) fun us s1 ⟨vs, H1, I1, r1, q1⟩ => ?_) hst rfl
  cases r1 with
  | nil => exact q1.elim
  | cons ra rr => cases rr with
    | cons _ _ => exact q1.elim
    | nil =>
      obtain ⟨a, C, dx, fs, gV, sp, ex, ea, M, q⟩ := q1
      obtain ⟨c, f, fd, ps, g, hm, F, hb⟩ := M
      subst ex
      cases ra
      obtain ⟨mA, O, _⟩ := ins_get I1.hok ea
      obtain ⟨od, J, _⟩ := O.look
      refine lenOwn I1.kIn J hm.at_ (mtyp hm) ?_
      have rv : Vals (gV [V.ref a] []) (g [Value.ref a] []) := hb.rel (vs := [V.ref a]) (us := [Value.ref a]) (zs := []) (ws := []) (.cons rfl .nil) .nil
      have hl : (g [Value.ref a] []).length = ps.length := by rw [← rv.length]; exact F.len _ _ _ _ q
      have W : wpAny (model X.prog X.w) X.A.in1 (call (.ref f) [.ref a]) (EP X pins σ (fun v H2 => ∃ n : Int, v = .int n ∧ 0 ≤ n ∧ n < 2 ^ 63 ∧ Q (.int n) H2)) X.xe s1 := by
        refine wpAny_call (codeAny_mono (F.run X.A.in1 X.stack s1 H1 ⟨[.ref a], []⟩ (g [.ref a] []) (gV [.ref a] []) _ E0 hr.in1 I1.env0.in1 (hb.to s1 [.ref a] [] I1.kIn hl) rv q) fun r s' hq => ?_)
        cases r with
        | error e => exact pass0 pins σ H1 s1 e s' I1 hq
        | ok fl =>
          cases fl with
          | ret u => exact I1.after hq
          | next => exact False.elim hq
          | brk => exact False.elim hq
          | cont => exact False.elim hq
      refine wpAny_mono W (fun u s' hu => ?_) fun _ _ z => z
      · obtain ⟨v, H2, I2, rv, n, rfl, h0, h1, qn⟩ := hu
        obtain ⟨t, rfl⟩ := (show ∃ t, u = Value.int n t from rv)
        exact ⟨h0, h1, ⟨.int n, H2, I2.tok _, ⟨_, rfl⟩, qn⟩⟩
end

/-! ### C(..), its arguments by place, by name, or left out -/
structure Mak (P : Program) (w : World) (K : PySem.W.Frag) (mg : Str → Option Value) (base : Heap) (k : Nat) (x : Str) (C : Addr) (ks : List Str) (gV : List V → List V → List V) (sp : Sp) : Prop where
  at_ : mg x = some (.ref C)
  ex : ∃ f fd ps g, Mk K C f ∧ FnOk P w K mg base CX0 k f fd ps sp ∧ KBinds K fd ps ks g gV
def tMak (C : Addr) (gV : List V → List V → List V) (sp : Sp) (t tk : TA) : TE := fun σ H Q => t σ H fun vs H1 => tk σ H1 fun zs H2 => ∀ x dx, H2 x = none → H2 dx = none → dx ≠ x →
  sp (gV (.ref x :: vs) zs) (upd (upd H2 dx (.own x)) x (.ins C dx [])) (fun v H3 => v = .non ∧ Q (.ref x) H3) E0
section
variable {X : Cx} {k : Nat} {C : Addr} {ks : List Str} {gV : List V → List V → List V} {sp : Sp} {x : Str} {p pos : Pos} {e : Expr} {es : List Expr} {kws : List Keyword} {t tk : TA}
theorem run_makK {pins : List (Addr × Obj)} {σ : St} {H : Hp} {s : Shared} {Q : VK} {us ws : List Value} {vs zs : List V} (M : Mak X.prog X.w X.K X.mg X.base k x C ks gV sp) (hr : Room (k + 1) X.A) (I : Inv X pins σ H s) (r : Vals vs us) (rz : Vals zs ws)
    (h : ∀ y dy, H y = none → H dy = none → dy ≠ y → sp (gV (.ref y :: vs) zs) (upd (upd H dy (.own y)) y (.ins C dy [])) (fun v H2 => v = .non ∧ Q (.ref y) H2) E0) :
    wpAny (model X.prog X.w) X.A (call (.ref C) us (ks.zip ws)) (EP X pins σ Q) X.xe s := by
  obtain ⟨hm, f, fd, ps, g, M, F, hb⟩ := M
  have hq := h (s.heap.objs.size + 1) s.heap.objs.size (I.hok.fresh (Nat.le_succ _)) (I.hok.fresh (Nat.le_refl _)) (Nat.ne_of_lt (Nat.lt_succ_self _))
  have I2 := Inv.made (C := C) I
  have r2 : Vals (gV (V.ref (s.heap.objs.size + 1) :: vs) zs) (g (Value.ref (s.heap.objs.size + 1) :: us) ws) := hb.rel (.cons rfl r) rz
  have hl : (g (Value.ref (s.heap.objs.size + 1) :: us) ws).length = ps.length := by rw [← r2.length]; exact F.len _ _ _ _ hq
  refine wpAny_call (make_map (f := f) I.kIn M.makes M.init (beq_iff_eq.mp M.fn) (codeAny_mono (F.run _ X.stack _ _ ⟨Value.ref (s.heap.objs.size + 1) :: us, ks.zip ws⟩ _ _ _ E0 (hr.make C us (ks.zip ws))
    (I2.env0.make C us (ks.zip ws)) (hb.to _ (Value.ref (s.heap.objs.size + 1) :: us) ws I2.kIn hl) r2 hq) fun r s' hq' => ?_))
  cases r with
  | error e => exact pass0 pins σ _ _ e s' I2 hq'
  | ok fl =>
    cases fl with
    | ret u =>
      obtain ⟨v, H', I3, rv, ev, q3⟩ := I2.after hq'
      subst ev
      exact ⟨rv, ⟨V.ref (s.heap.objs.size + 1), H', I3, rfl, q3⟩⟩
    | next => exact False.elim hq'
    | brk => exact False.elim hq'
    | cont => exact False.elim hq'
theorem Mak.kp {P : Program} {w : World} {K : PySem.W.Frag} {mg : Str → Option Value} {base : Heap} (M : Mak P w K mg base k x C ks gV sp) : PySem.W.keepIn K (.ref C) = true := by
  obtain ⟨_, _, _, _, _, M, _⟩ := M
  exact M.kp
theorem pe_mak (M : Mak X.prog X.w X.K X.mg X.base k x C [] gV sp) (hr : Room (k + 1) X.A) (hg : Gl X x) (ha : PA X (e :: es) t) (hdb : (x == ("__debug__" : Str)) = false := by decide)
    (he : starEach (e :: es) X.env = (false, eval e X.env) :: starEach es X.env := by rfl) (hpl : (backTo pos (starEach es X.env)).any (·.1) = false := by rfl) : PE X (.Call (.Name x p) (e :: es) [] pos) (tMak C gV sp t tNil) := by
  intro pins s σ H Q I h
  refine wpAny_Call_Name_kw (ld_glob I hg M.at_ ?_ hdb)
  refine PySem.W.callWith_K (h₀ := X.base) I.ok.mod.kin M.kp (thn (ha pos pins s σ H _ I h) fun us s1 ⟨vs, H1, I1, r, q⟩ => ⟨I1.kIn, ?_⟩) he hpl
  exact run_makK (ws := []) (zs := []) M hr I1 r .nil q
theorem pe_makK (M : Mak X.prog X.w X.K X.mg X.base k x C ks gV sp) (hr : Room (k + 1) X.A) (hg : Gl X x) (hkw : PK X kws tk)
    (hall : (backToKw pos (keywordEach kws X.env)).all (·.1.isSome) = true := by rfl) (hks : (backToKw pos (keywordEach kws X.env)).filterMap (·.1) = ks := by rfl) (hdb : (x == ("__debug__" : Str)) = false := by decide)
    (hpl : ((backTo pos (starEach [] X.env)).any (·.1) || (backToKw pos (keywordEach kws X.env)).any (·.1.isNone)) = false := by rfl) : PE X (.Call (.Name x p) [] kws pos) (tMak C gV sp tNil tk) := by
  intro pins s σ H Q I h
  refine wpAny_Call_Name_kw (ld_glob I hg M.at_ ?_ hdb)
  refine PySem.W.callWith_KW0 (h₀ := X.base) I.ok.mod.kin M.kp hall ?_ hpl
  refine thn (hkw pos pins s σ H _ I h) fun ws s2 ⟨zs, H2, I2, rz, q2⟩ => ⟨I2.kIn, ?_⟩
  rw [hks]
  exact run_makK (us := []) (vs := []) M hr I2 .nil rz q2
end

/-! ### C.m(..), the class's own def -/
structure Clm (P : Program) (w : World) (K : PySem.W.Frag) (mg : Str → Option Value) (base : Heap) (k : Nat) (x m : Str) (sp : Sp) : Prop where
  ex : ∃ C f fd ps mc, mg x = some (.ref C) ∧ PySem.W.specialIn K (.ref C) "__getattribute__" = some (some (.builtin "type.__getattribute__")) ∧ PySem.W.readsIn K C mc = true ∧ PySem.W.findCls K (.ref C) mc m = some (.val (.ref f)) ∧
    PySem.W.keepIn K (.ref f) = true ∧ FnOk P w K mg base CX0 k f fd ps sp ∧ Binds K fd ps []
section
variable {X : Cx} {k : Nat} {sp : Sp} {x m : Str} {p pos apos : Pos} {e : Expr} {es : List Expr} {t : TA}
theorem pe_clm (M : Clm X.prog X.w X.K X.mg X.base k x m sp) (hr : Room k X.A) (hg : Gl X x) {pl : Sem Bool} (ha : PA X (e :: es) t) (hdb : (x == ("__debug__" : Str)) = false := by decide)
    (hst : starEach (e :: es) X.env = (false, eval e X.env) :: starEach es X.env := by rfl) (hpl : (backTo pos (starEach es X.env)).any (·.1) = false := by rfl)
    (ht : eval (.Call (.Attribute (.Name x p) m apos) (e :: es) [] pos) X.env = (do
      let ov ← eval (.Name x p) X.env
      standAt apos.atName
      let (f, first) ← holding [ov] (getMethod ov m pl)
      callWith pos f first (backTo pos (starEach (e :: es) X.env)) (backToKw pos (keywordEach [] X.env))) := by rfl) :
    PE X (.Call (.Attribute (.Name x p) m apos) (e :: es) [] pos) (tCall sp [] E0 t) := by
  obtain ⟨C, f, fd, ps, mc, hm, hs, hrd, hf, hk, F, hb⟩ := M
  intro pins s σ H Q I h
  refine PySem.W.methodCall_KW (pl := pl) ?_ ht
  refine ld_glob I hg hm ?_ hdb
  refine PySem.W.method_cls I.kIn hs (PySem.W.cls_value I.kIn hrd hf rfl ?_)
  have I0 := I.tok (s.toks + 1)
  refine PySem.W.callWith_K (first := []) (h₀ := X.base) I.ok.mod.kin hk (thn (ha pos pins _ σ H _ I0 h) fun us s2 ⟨vs, H2, I2, r, q2⟩ => ⟨I2.kIn, ?_⟩) hst hpl
  exact run_fn F hr hb .nil pass0 I2 r q2
end
end L2

end

section
set_option Elab.async false
set_option linter.all false
set_option maxRecDepth 100000
set_option maxHeartbeats 4000000
namespace L2
open PySem PySem.Spec PyProof.Rows
/-! ### zip of two lists or two tuples -/
def itC (t : Bool) : String := if t then "tuple_iterator" else "list_iterator"
def sqC (t : Bool) : String := if t then "tuple" else "list"
def IsIt (t : Bool) (h : Heap) (a l : Addr) (i : Nat) : Prop := ∃ o, h.get? a = some o ∧ o.cls = .type (itC t) ∧ o.data = .fields #[.ref l, .int i 0]
def IsSq (t : Bool) (h : Heap) (a : Addr) (xs : Array Value) : Prop := ∃ o, h.get? a = some o ∧ o.cls = .type (sqC t) ∧ ∃ n, o.data = .seq xs n
theorem IsIt.at {t : Bool} {h h' : Heap} {a l : Addr} {i : Nat} (x : IsIt t h a l i) (e : ∀ o, h.get? a = some o → h'.get? a = some o) : IsIt t h' a l i := let ⟨o, ho, r⟩ := x; ⟨o, e _ ho, r⟩
theorem IsSq.at {t : Bool} {h h' : Heap} {a : Addr} {xs : Array Value} (x : IsSq t h a xs) (e : ∀ o, h.get? a = some o → h'.get? a = some o) : IsSq t h' a xs := let ⟨o, ho, r⟩ := x; ⟨o, e _ ho, r⟩
section
variable {prog : Program} {w : World} {A : Around} {E : Value → Shared → Prop} {s : Shared}
theorem nx_item {t : Bool} {it l : Addr} {i : Nat} {xs : Array Value} {x : Value} {Q : Value → Shared → Prop} (hi : IsIt t s.heap it l i) (hl : IsSq t s.heap l xs) (hx : xs[i]? = some x)
    (q : ∀ h', IsIt t h' it l (i + 1) → Heap.SameBut it s.heap h' → Q x { s with heap := h' }) : wpAny (model prog w) A (Builtin.SmallTypes.nextOf (.ref it)) Q E s := by
  cases t with
  | false => exact wpAny_nextOf_list_item hi hl hx q
  | true =>
    have ht : s.TypeIs (.ref it) "tuple_iterator" := let ⟨o, ho, hc, _⟩ := hi; ⟨o, ho, hc⟩
    obtain ⟨o, ho, hc, hd⟩ := id hi; obtain ⟨ol, hol, _, nl, hdl⟩ := hl
    delta Builtin.SmallTypes.nextOf
    refine wpAny_bind (wpAny_callSpecial?_slot (name := Str.ofString "__next__") ht F.slot_tuple_iterator_next (wpAny_call_entry F.slot_tuple_iterator_next ht F.entry_tuple_iterator_next ?_ (F.args_tuple_iterator_next_1 _)))
    show wpAny _ _ (field (.ref it) 0 >>= _) _ _ s; refine wpAny_bind (wpAny_field ho hd (x := .ref l) rfl ?_)
    show wpAny _ _ (if (Value.ref l == Value.none) = true then _ else _) _ _ s; rw [if_neg (show ¬ ((Value.ref l == Value.none) = true) from Bool.false_ne_true)]
    show wpAny _ _ (field (.ref it) 1 >>= _) _ _ s; refine wpAny_bind (wpAny_field ho hd (x := .int i 0) rfl ?_)
    show wpAny _ _ (seqItems? (.ref l) >>= _) _ _ s; refine wpAny_bind (wpAny_seqItems hol hdl ?_); simp only [Int.toNat_natCast, hx]
    refine wpAny_bind (wpAny_setField ho hd (by simp) (wpAny_pure ⟨x, rfl, wpAny_pure (q _ ⟨_, Heap.get?_update_self _ ho (Obj.isFreed_of_fields (Obj.data_mapFields hd _)), (Obj.cls_mapFields ..).trans hc, by rw [Obj.data_mapFields hd]; simp [rawInt]⟩ (Heap.SameBut.update ..))⟩))
theorem nx_end {t : Bool} {it l : Addr} {i : Nat} {xs : Array Value} {Q : Value → Shared → Prop} (hh : A.handled = none) (hi : IsIt t s.heap it l i) (hl : IsSq t s.heap l xs) (hx : xs[i]? = none)
    (q : ∀ h' e, Heap.ExtBut it s.heap h' → (∃ o, h'.get? e = some o ∧ o.cls = .type "StopIteration") → E (.ref e) { s with heap := h' }) : wpAny (model prog w) A (Builtin.SmallTypes.nextOf (.ref it)) Q E s := by
  cases t with
  | false => exact wpAny_nextOf_list_end hh hi hl hx q
  | true =>
    have ht : s.TypeIs (.ref it) "tuple_iterator" := let ⟨o, ho, hc, _⟩ := hi; ⟨o, ho, hc⟩
    obtain ⟨o, ho, hc, hd⟩ := id hi; obtain ⟨ol, hol, _, nl, hdl⟩ := hl
    delta Builtin.SmallTypes.nextOf
    refine wpAny_bind (wpAny_callSpecial?_slot (name := Str.ofString "__next__") ht F.slot_tuple_iterator_next (wpAny_call_entry F.slot_tuple_iterator_next ht F.entry_tuple_iterator_next ?_ (F.args_tuple_iterator_next_1 _)))
    show wpAny _ _ (field (.ref it) 0 >>= _) _ _ s; refine wpAny_bind (wpAny_field ho hd (x := .ref l) rfl ?_)
    show wpAny _ _ (if (Value.ref l == Value.none) = true then _ else _) _ _ s; rw [if_neg (show ¬ ((Value.ref l == Value.none) = true) from Bool.false_ne_true)]
    show wpAny _ _ (field (.ref it) 1 >>= _) _ _ s; refine wpAny_bind (wpAny_field ho hd (x := .int i 0) rfl ?_)
    show wpAny _ _ (seqItems? (.ref l) >>= _) _ _ s; refine wpAny_bind (wpAny_seqItems hol hdl ?_); simp only [Int.toNat_natCast, hx]
    refine wpAny_bind (wpAny_rule (wpAny_bind (wpAny_setField ho hd (by simp) ?_))); show wpAny _ _ (newExc (.type "StopIteration") [] >>= _) _ _ _
    refine wpAny_bind ?_; simp only [newExc, newTuple]; refine wpAny_bind (wpAny_newObj_type ?_ (by size_fits))
    refine wpAny_bind (m := firstArgMember _ _) (wpAny_of_eq (a := Value.none) (by first | rfl | (simp only [firstArgMember]; rfl)) ?_); refine wpAny_newObj_type ?_ (by size_fits)
    simp only [raiseNew]; refine wpAny_bind (wpAny_handled ?_); rw [show A.in1.handled = none from hh]; refine wpAny_bind (wpAny_pure (wpAny_throw ?_))
    exact q _ _ (((Heap.SameBut.update ..).extBut.push _).push _) ⟨_, Heap.get?_push_size _ rfl, rfl⟩
theorem it_new {t : Bool} {l : Addr} {xs : Array Value} {Q : Value → Shared → Prop} (hl : IsSq t s.heap l xs) (q : Q (.ref s.heap.objs.size) { s with heap := s.heap.push { cls := .type (itC t), data := .fields #[.ref l, .int 0 0] } }) : wpAny (model prog w) A (pyIter (.ref l)) Q E s := by
  cases t with
  | false => exact wpAny_pyIter_list hl q
  | true => exact wpAny_pyIter_tuple hl q
structure Far2 (z TO i1 i2 : Addr) : Prop where
  oz : TO ≠ z
  az : i1 ≠ z
  bz : i2 ≠ z
  oa : TO ≠ i1
  ob : TO ≠ i2
  ab : i1 ≠ i2
structure FarM (z TO i1 i2 l : Addr) : Prop where
  z : l ≠ z
  o : l ≠ TO
  a : l ≠ i1
  b : l ≠ i2
theorem upd_pair {T : Addr} {a b x : Value} {k : Nat} {Q : Unit → Shared → Prop} (hT : IsPair s.heap T a b)
    (q : ∀ h', h'.get? T = some { cls := .type "tuple", data := .seq ((#[a, b] : Array Value).setIfInBounds k x) } → Heap.SameBut T s.heap h' → Q () { s with heap := h' }) : wpAny (model prog w) A (updateSeq T (·.setIfInBounds k x)) Q E s :=
  wpAny_updateSeq hT rfl (q _ ((Heap.get?_update_self _ hT rfl).trans (by simp [Obj.mapSeq])) (Heap.SameBut.update ..))
theorem zip2_item {t : Bool} {z TI TO i1 i2 l1 l2 : Addr} {k : Nat} {xs ys : Array Value} {x y a b : Value} {Q : Value → Shared → Prop} (D : Far2 z TO i1 i2) (L1 : FarM z TO i1 i2 l1) (L2' : FarM z TO i1 i2 l2)
    (hz : IsZip s.heap z TI TO .none) (hI : IsPair s.heap TI (.ref i1) (.ref i2)) (hO : IsPair s.heap TO a b)
    (h1 : IsIt t s.heap i1 l1 k) (h2 : IsIt t s.heap i2 l2 k) (g1 : IsSq t s.heap l1 xs) (g2 : IsSq t s.heap l2 ys) (ex : xs[k]? = some x) (ey : ys[k]? = some y)
    (q : ∀ h', IsZip h' z TI TO (rawInt s.heap.objs.size) → IsPair h' TO x y → IsIt t h' i1 l1 (k + 1) → IsIt t h' i2 l2 (k + 1) → IsPair h' s.heap.objs.size x y → h'.objs.size = s.heap.objs.size + 1 →
      (∀ d o, d ≠ z → d ≠ TO → d ≠ i1 → d ≠ i2 → s.heap.get? d = some o → h'.get? d = some o) → Q (.ref s.heap.objs.size) { s with heap := h' }) :
    wpAny (model prog w) A (Builtin.«zip.__next__» ⟨[.ref z], []⟩) (fun fin s' => ∃ v, fin = .done (.ret v) ∧ Q v s') E s := by
  show wpAny _ _ (field (.ref z) 2 >>= _) _ _ _
  refine wpAny_bind (wpAny_field hz rfl (x := .bool false) rfl ?_); show wpAny _ _ (field (.ref z) 3 >>= _) _ _ _
  refine wpAny_bind (wpAny_field hz rfl (x := .ref TI) rfl (wpAny_bind (wpAny_seqItems hI rfl ?_))); show wpAny _ _ (Builtin.SmallTypes.ownedTupleIsFree (.ref z) >>= _) _ _ _
  refine wpAny_bind ?_; unfold Builtin.SmallTypes.ownedTupleIsFree
  refine wpAny_bind (wpAny_field hz rfl (x := .none) rfl (wpAny_pure ?_)); simp only [if_true]
  refine wpAny_bind (wpAny_rule (wpAny_bind (wpAny_field hz rfl (x := .ref TO) rfl ?_)))
  refine wpAny_bind (wpAny_setField_rec hz (by simp) fun e1 z1 b1 => ?_)
  replace z1 : IsZip e1 z TI TO .ellipsis := z1
  refine wpAny_bind ?_; simp only [List.zipIdx_cons, List.zipIdx_nil, List.forIn_cons, List.forIn_nil]
  refine wpAny_bind (wpAny_bind (wpAny_onRaise ?_)); show wpAny _ _ (Builtin.SmallTypes.nextOf (.ref i1) >>= _) _ _ _
  refine wpAny_bind (nx_item (h1.at fun o e => b1.extBut _ _ D.az e) (g1.at fun o e => b1.extBut _ _ L1.z e) ex fun e2 n1 b2 => wpAny_pure ?_)
  have O2 : IsPair e2 TO a b := b2.extBut _ _ D.oa (b1.extBut _ _ D.oz hO)
  refine wpAny_bind (wpAny_seqItems O2 rfl (wpAny_bind (upd_pair O2 fun e3 O3 b3 => wpAny_bind (wpAny_letGo (wpAny_pure ?_)))))
  replace O3 : IsPair e3 TO x b := O3
  have up3 : ∀ d o, d ≠ z → d ≠ TO → d ≠ i1 → s.heap.get? d = some o → e3.get? d = some o := fun d o q1 q2 q3 e => b3.extBut _ _ q2 (b2.extBut _ _ q3 (b1.extBut _ _ q1 e))
  refine wpAny_bind (wpAny_bind (wpAny_onRaise ?_)); show wpAny _ _ (Builtin.SmallTypes.nextOf (.ref i2) >>= _) _ _ _
  refine wpAny_bind (nx_item (h2.at fun o e => up3 _ o D.bz D.ob.symm D.ab.symm e) (g2.at fun o e => up3 _ o L2'.z L2'.o L2'.a e) ey fun e4 n2 b4 => wpAny_pure ?_)
  have O4 : IsPair e4 TO x b := b4.extBut _ _ D.ob O3
  refine wpAny_bind (wpAny_seqItems O4 rfl (wpAny_bind (upd_pair O4 fun e5 O5 b5 => wpAny_bind (wpAny_letGo (wpAny_pure (wpAny_pure ?_))))))
  replace O5 : IsPair e5 TO x y := O5
  have up5 : ∀ d o, d ≠ z → d ≠ TO → d ≠ i1 → d ≠ i2 → s.heap.get? d = some o → e5.get? d = some o := fun d o q1 q2 q3 q4 e => b5.extBut _ _ q2 (b4.extBut _ _ q4 (up3 d o q1 q2 q3 e))
  have sz : e5.objs.size = s.heap.objs.size := by rw [b5.1, b4.1, b3.1, b2.1, b1.1]
  have z7 : IsZip e5 z TI TO .ellipsis := b5.extBut _ _ D.oz.symm (b4.extBut _ _ D.bz.symm (b3.extBut _ _ D.oz.symm (b2.extBut _ _ D.az.symm z1)))
  have m1 : IsIt t e5 i1 l1 (k + 1) := n1.at fun o e => b5.extBut _ _ D.oa.symm (b4.extBut _ _ D.ab (b3.extBut _ _ D.oa.symm e))
  have m2 : IsIt t e5 i2 l2 (k + 1) := n2.at fun o e => b5.extBut _ _ D.ob.symm e
  have zl : z < e5.objs.size := Heap.lt_size z7
  refine wpAny_bind (wpAny_seqItems O5 rfl (wpAny_bind (wpAny_newTuple ?_))); show wpAny _ _ (Builtin.SmallTypes.ownedTupleHandOut (.ref z) (.ref e5.objs.size) >>= _) _ _ _
  refine wpAny_bind ?_; unfold Builtin.SmallTypes.ownedTupleHandOut
  have z8 : IsZip (e5.push { cls := .type "tuple", data := .seq #[x, y] }) z TI TO .ellipsis := Heap.get?_push_of_some _ z7
  refine wpAny_bind (wpAny_setField_rec z8 (by simp) fun e9 z9 b9 => ?_)
  replace z9 : IsZip e9 z TI TO (rawInt e5.objs.size) := z9
  refine wpAny_setField_rec z9 (by simp) fun e0 z0 b0 => ?_
  replace z0 : IsZip e0 z TI TO (rawInt e5.objs.size) := z0
  have up : ∀ d o, d ≠ z → e5.get? d = some o → e0.get? d = some o := fun d o q1 e => b0.extBut _ _ q1 (b9.extBut _ _ q1 (Heap.get?_push_of_some _ e))
  have T0 : IsPair e0 e5.objs.size x y := b0.extBut _ _ (Nat.ne_of_gt zl) (b9.extBut _ _ (Nat.ne_of_gt zl) (Heap.get?_push_size _ rfl))
  have s0 : e0.objs.size = e5.objs.size + 1 := by rw [b0.1, b9.1, Heap.size_push]
  rw [sz] at z0 T0 s0
  refine wpAny_pure ⟨_, rfl, ?_⟩; show Q (.ref e5.objs.size) _; rw [sz]
  exact q e0 z0 (up _ _ D.oz O5) (m1.at fun o e => up _ o D.az e) (m2.at fun o e => up _ o D.bz e) T0 s0 fun d o q1 q2 q3 q4 e => up d o q1 (up5 d o q1 q2 q3 q4 e)
theorem zip2_end {t : Bool} {z TI TO i1 i2 l1 : Addr} {k : Nat} {xs : Array Value} {Q : Fin → Shared → Prop} (hh : A.handled = none) (D : Far2 z TO i1 i2) (L1 : FarM z TO i1 i2 l1)
    (hz : IsZip s.heap z TI TO .none) (hI : IsPair s.heap TI (.ref i1) (.ref i2)) (h1 : IsIt t s.heap i1 l1 k) (g1 : IsSq t s.heap l1 xs) (ex : xs[k]? = none)
    (q : ∀ h' e, (∀ d o, d ≠ z → d ≠ i1 → s.heap.get? d = some o → h'.get? d = some o) → (∃ o, h'.get? e = some o ∧ o.cls = .type "StopIteration") → E (.ref e) { s with heap := h' }) :
    wpAny (model prog w) A (Builtin.«zip.__next__» ⟨[.ref z], []⟩) Q E s := by
  show wpAny _ _ (field (.ref z) 2 >>= _) _ _ _
  refine wpAny_bind (wpAny_field hz rfl (x := .bool false) rfl ?_); show wpAny _ _ (field (.ref z) 3 >>= _) _ _ _
  refine wpAny_bind (wpAny_field hz rfl (x := .ref TI) rfl (wpAny_bind (wpAny_seqItems hI rfl ?_))); show wpAny _ _ (Builtin.SmallTypes.ownedTupleIsFree (.ref z) >>= _) _ _ _
  refine wpAny_bind ?_; unfold Builtin.SmallTypes.ownedTupleIsFree
  refine wpAny_bind (wpAny_field hz rfl (x := .none) rfl (wpAny_pure ?_)); simp only [if_true]
  refine wpAny_bind (wpAny_rule (wpAny_bind (wpAny_field hz rfl (x := .ref TO) rfl ?_)))
  refine wpAny_bind (wpAny_setField_rec hz (by simp) fun e1 z1 b1 => ?_)
  replace z1 : IsZip e1 z TI TO .ellipsis := z1
  refine wpAny_bind ?_; simp only [List.zipIdx_cons, List.zipIdx_nil, List.forIn_cons, List.forIn_nil]
  refine wpAny_bind (wpAny_bind (wpAny_onRaise ?_)); show wpAny _ _ (Builtin.SmallTypes.nextOf (.ref i1) >>= _) _ _ _
  refine wpAny_bind (nx_end hh (h1.at fun o e => b1.extBut _ _ D.az e) (g1.at fun o e => b1.extBut _ _ L1.z e) ex fun e2 e b2 he => ?_)
  obtain ⟨oe, hoe, hce⟩ := he
  have z2 : IsZip e2 z TI TO .ellipsis := b2 _ _ D.az.symm z1
  have ne : e ≠ z := fun y => by subst y; rw [z2] at hoe; cases hoe; simp at hce
  exact wpAny_setField_rec z2 (by simp) fun e3 _ b3 => q e3 e (fun d o q1 q2 y => b3.extBut _ _ q1 (b2 _ _ q2 (b1.extBut _ _ q1 y))) ⟨oe, b3.extBut _ _ ne hoe, hce⟩
end
abbrev yA (t : Bool) (h : Heap) (l : Addr) : Heap := h.push { cls := .type (itC t), data := .fields #[.ref l, .int 0 0] }
abbrev yB (t : Bool) (h : Heap) (l1 l2 : Addr) : Heap := (yA t (yA t h l1) l2).push { cls := .type "tuple", data := .seq #[.ref h.objs.size, .ref (yA t h l1).objs.size] }
abbrev yC (t : Bool) (h : Heap) (l1 l2 : Addr) : Heap := (yB t h l1 l2).push { cls := .type "tuple", data := .seq #[.none, .none] }
abbrev yD (t : Bool) (h : Heap) (l1 l2 : Addr) : Heap := (yC t h l1 l2).push { cls := .type "zip", data := .fields #[.none, .bool false, .bool false, .ref (yA t (yA t h l1) l2).objs.size, .ref (yB t h l1 l2).objs.size] }
theorem zip2_new (t : Bool) (l1 l2 : Addr) (xs ys : Array Value) :
    Meets (Builtin.«zip.__new__» ⟨[.type "zip", .ref l1, .ref l2], []⟩) (fun _ R s => IsSq t s.heap l1 xs ∧ IsSq t s.heap l2 ys ∧ R (.ok (.ret (.ref (yC t s.heap l1 l2).objs.size))) { s with heap := yD t s.heap l1 l2 }) :=
  .of_wp fun prog w A R s h => by
    obtain ⟨hp, g, d, tk, os⟩ := s; obtain ⟨hl1, hl2, h⟩ := h
    have hsub := sub_zip
    have hA : IsSq t (Shared.heap ⟨hp, g, d, tk, os⟩) l1 xs := hl1
    have hB : IsSq t (Shared.heap ⟨yA t hp l1, g, d, tk, os⟩) l2 ys := hl2.at fun o e => Heap.get?_push_of_some _ e
    wp_walk using it_new hA, it_new hB
    exact ⟨_, rfl, h⟩
end L2

end

section
set_option Elab.async false
set_option linter.all false
set_option maxRecDepth 100000
set_option maxHeartbeats 4000000
namespace L2
open PySem PySem.Spec PyProof.Rows
/-- a tracked tuple or list -/
def hoX (t : Bool) (xs : List V) : HO := if t then .tup xs else .lst xs
def SqX (t : Bool) (H : Hp) (a : Addr) (xs : List V) : Prop := H a = some (hoX t xs)
theorem Inv.sqx {X : Cx} {pins : List (Addr × Obj)} {σ : St} {H : Hp} {s : Shared} (I : Inv X pins σ H s) {t : Bool} {a : Addr} {xs : List V} (h : SqX t H a xs) : ∃ its : List Value, Vals xs its ∧ IsSq t s.heap a its.toArray := by
  cases t with
  | false =>
    obtain ⟨its, r, p, _⟩ := I.list (SqL.of (xs := xs) h)
    exact ⟨its, r, p.isList⟩
  | true =>
    obtain ⟨its, r, p, _⟩ := I.tuple (SqT.of (xs := xs) h)
    exact ⟨its, r, p⟩
theorem call_zip2 {prog : Program} {w : World} {A : Around} {E : Value → Shared → Prop} {s : Shared} {t : Bool} {l1 l2 : Addr} {xs ys : Array Value} {Q : Value → Shared → Prop} (g1 : IsSq t s.heap l1 xs) (g2 : IsSq t s.heap l2 ys)
    (q : ∀ h' n, n = s.heap.objs.size → IsZip h' (n + 4) (n + 2) (n + 3) .none → IsPair h' (n + 2) (.ref n) (.ref (n + 1)) → IsPair h' (n + 3) .none .none → IsIt t h' n l1 0 → IsIt t h' (n + 1) l2 0 →
      (∀ d o, s.heap.get? d = some o → h'.get? d = some o) → Q (.ref (n + 4)) { s with heap := h' }) :
    wpAny (model prog w) A (call (.type "zip") [.ref l1, .ref l2]) Q E s := by
  refine callType_new F.called_zip (by decide) (F.typeCall_zip_2 _ _) (F.newCall_zip_2 _ _) (fun obj => F.args_object_init_3 obj _ _) F.entry_zip_new (zip2_new t l1 l2 xs ys) ⟨g1, g2, ?_⟩
  have n1 : (yA t s.heap l1).objs.size = s.heap.objs.size + 1 := Heap.size_push ..
  have n2 : (yA t (yA t s.heap l1) l2).objs.size = s.heap.objs.size + 2 := by rw [Heap.size_push, n1]
  have n3 : (yB t s.heap l1 l2).objs.size = s.heap.objs.size + 3 := by rw [Heap.size_push, n2]
  have n4 : (yC t s.heap l1 l2).objs.size = s.heap.objs.size + 4 := by rw [Heap.size_push, n3]
  have a4 : (yD t s.heap l1 l2).get? (yC t s.heap l1 l2).objs.size = some _ := Heap.get?_push_size _ rfl
  have a3 : (yD t s.heap l1 l2).get? (yB t s.heap l1 l2).objs.size = some _ := Heap.get?_push_of_some _ (Heap.get?_push_size _ rfl)
  have a2 : (yD t s.heap l1 l2).get? (yA t (yA t s.heap l1) l2).objs.size = some _ := Heap.get?_push_of_some _ (Heap.get?_push_of_some _ (Heap.get?_push_size _ rfl))
  have a1 : (yD t s.heap l1 l2).get? (yA t s.heap l1).objs.size = some _ := Heap.get?_push_of_some _ (Heap.get?_push_of_some _ (Heap.get?_push_of_some _ (Heap.get?_push_size _ rfl)))
  have a0 : (yD t s.heap l1 l2).get? s.heap.objs.size = some _ := Heap.get?_push_of_some _ (Heap.get?_push_of_some _ (Heap.get?_push_of_some _ (Heap.get?_push_of_some _ (Heap.get?_push_size _ rfl))))
  show _ ∧ _
  rw [n2, n3, n4] at a4
  rw [n3] at a3
  rw [n1, n2] at a2
  rw [n1] at a1
  rw [n4]
  exact ⟨⟨_, a4, rfl⟩, q _ _ rfl a4 a2 a3 ⟨_, a0, rfl, rfl⟩ ⟨_, a1, rfl, rfl⟩ fun d o e =>
    Heap.get?_push_of_some _ (Heap.get?_push_of_some _ (Heap.get?_push_of_some _ (Heap.get?_push_of_some _ (Heap.get?_push_of_some _ e))))⟩
def Ity (t : Bool) (a b : Addr) : It :=
  ⟨fun i H => ∃ xs x ys y, SqX t H a xs ∧ SqX t H b ys ∧ xs[i]? = some x ∧ ys[i]? = some y,
   fun i H v H' => ∃ T x y, H T = none ∧ v = .ref T ∧ H' = upd H T (.tup [x, y]) ∧ (∀ xs, SqX t H a xs → xs[i]? = some x) ∧ ∀ ys, SqX t H b ys → ys[i]? = some y,
   fun i H => ∃ xs, SqX t H a xs ∧ xs.length ≤ i⟩
theorem farM_of {t : Bool} {h : Heap} {z TI TO i1 i2 l k1 k2 : Addr} {it : Array Value} {f0 : Value} {n1 n2 : Nat} (g : IsSq t h l it) (hz : IsZip h z TI TO f0) (lo : l ≠ TO) (h1 : IsIt t h i1 k1 n1) (h2 : IsIt t h i2 k2 n2) : FarM z TO i1 i2 l := by
  have ap : ∀ {d : Addr} {o : Obj}, h.get? d = some o → o.cls ≠ .type (sqC t) → l ≠ d := fun {d o} e nc y => by
    obtain ⟨o', e', c', _⟩ := g
    rw [y, e] at e'; cases e'; exact nc c'
  obtain ⟨_, e1, c1, _⟩ := h1
  obtain ⟨_, e2, c2, _⟩ := h2
  have ne : (Value.type (itC t)) ≠ .type (sqC t) := by cases t <;> simp [itC, sqC]
  exact ⟨ap hz (by cases t <;> simp [sqC]), lo, ap e1 (by rw [c1]; exact ne), ap e2 (by rw [c2]; exact ne)⟩
theorem sqx_inj {H : Hp} {t : Bool} {a : Addr} {xs ys : List V} (h : SqX t H a xs) (h2 : SqX t H a ys) : xs = ys := by
  have e := Option.some.inj (h.symm.trans h2)
  cases t with
  | false => exact HO.lst.inj e
  | true => exact HO.tup.inj e
theorem turn_zip2 {P : Program} {w : World} {K : PySem.W.Frag} {elts : List Expr} {kt : Nat} {tp : Pos} (t : Bool) (l1 l2 z TI TO i1 i2 : Addr) (D : Far2 z TO i1 i2) (TIz : TI ≠ z) (TITO : TI ≠ TO) (TI1 : TI ≠ i1) (TI2 : TI ≠ i2) :
    Turn P w K (.Tuple elts kt tp) (Ity t l1 l2) [z, TI, TO, i1, i2] z (fun i h => IsZip h z TI TO .none ∧ IsPair h TI (.ref i1) (.ref i2) ∧ (∃ a b, IsPair h TO a b) ∧ IsIt t h i1 l1 i ∧ IsIt t h i2 l2 i) where
  mem := by simp
  obj := fun i h st b hb => by
    obtain ⟨hz, hI, ⟨_, _, hO⟩, ⟨o1, e1, _, d1⟩, ⟨o2, e2, _, d2⟩⟩ := st
    simp only [List.mem_cons, List.mem_nil_iff, or_false] at hb
    rcases hb with rfl | rfl | rfl | rfl | rfl
    · exact ⟨_, hz, fun v y => by have y' : Data.fields _ = Data.cell v := y; cases y'⟩
    · exact ⟨_, hI, fun v y => by have y' : Data.seq _ _ = Data.cell v := y; cases y'⟩
    · exact ⟨_, hO, fun v y => by have y' : Data.seq _ _ = Data.cell v := y; cases y'⟩
    · exact ⟨_, e1, fun v y => by rw [d1] at y; cases y⟩
    · exact ⟨_, e2, fun v y => by rw [d2] at y; cases y⟩
  keep := fun i h h' st k => by
    obtain ⟨hz, hI, ⟨a, b, hO⟩, h1, h2⟩ := st
    exact ⟨k z (by simp) _ hz, k TI (by simp) _ hI, ⟨a, b, k TO (by simp) _ hO⟩, h1.at fun o e => k i1 (by simp) o e, h2.at fun o e => k i2 (by simp) o e⟩
  item := by
    intro X hP hw hK hc i pins s σ H E I hf st hg
    subst hP hw hK
    obtain ⟨xs, x, ys, y, p1, p2, e1, e2⟩ := hg
    obtain ⟨t1, r1, f1⟩ := I.sqx p1
    obtain ⟨t2, r2, f2⟩ := I.sqx p2
    obtain ⟨v1, w1, rx⟩ := r1.get e1
    obtain ⟨v2, w2, ry⟩ := r2.get e2
    obtain ⟨hz, hI, ⟨a, b, hO⟩, h1, h2⟩ := st
    have nO : H TO = none := (hf TO (by simp)).1
    have far : ∀ {l : Addr} {zs : List V}, SqX t H l zs → l ≠ TO := fun {l zs} p e => by rw [SqX, e, nO] at p; cases p
    have hT : s.TypeIs (.ref z) "zip" := ⟨_, hz, rfl⟩
    unfold pyNext
    refine wpAny_bind (wpAny_attempt (wpAny_callSpecial?_slot (name := Str.ofString "__next__") hT F.slot_zip_next (wpAny_call_entry F.slot_zip_next hT F.entry_zip_next
      (zip2_item D (farM_of f1 hz (far p1) h1 h2) (farM_of f2 hz (far p2) h1 h2) hz hI hO h1 h2 f1 f2 (x := v1) (y := v2) (by simpa using w1) (by simpa using w2)
        fun h' z1 O1 m1 m2 T1 s1 kk => wpAny_pure ⟨_, rfl, ?_⟩) (F.args_zip_next_1 _))))
    refine wpAny_letOwnedTupleGo_zip z1 fun h4 z4 sb => ?_
    have fT : FpOk X pins H s.heap.objs.size := I.fpOk (Nat.le_refl _) (I.hok.fresh (Nat.le_refl _))
    have k2 : ∀ d o, d ∉ [z, TI, TO, i1, i2] → s.heap.get? d = some o → h4.get? d = some o := fun d o hb e => by
      simp only [List.mem_cons, List.mem_nil_iff, or_false, not_or] at hb
      obtain ⟨q1, q2, q3, q4, q5⟩ := hb
      exact (sb.2 d q1).trans (kk d o q1 q3 q4 q5 e)
    have I1 : Inv X pins σ H { s with heap := h4, toks := s.toks } := I.turnedL (ch := [z, TI, TO, i1, i2]) k2 hf
    have eT : h4.get? s.heap.objs.size = some { cls := .type "tuple", data := .seq #[v1, v2] } := (sb.2 _ (Nat.ne_of_gt (Heap.lt_size hz))).trans T1
    have I2 := I1.track (o := .tup [x, y]) fT (Nat.le_trans I.sz (Nat.le_refl _)) (tup2_ok rx ry eT)
    refine ⟨.ref s.heap.objs.size, _, I2, rfl, ⟨_, x, y, fT.1, rfl, rfl, fun ys hy => by rw [sqx_inj hy p1]; exact e1, fun ys hy => by rw [sqx_inj hy p2]; exact e2⟩,
      ⟨z4, (sb.2 _ TIz).trans (kk _ _ TIz TITO TI1 TI2 hI), ⟨_, _, sb.extBut _ _ D.oz O1⟩, m1.at fun o e => sb.extBut _ _ D.az e, m2.at fun o e => sb.extBut _ _ D.bz e⟩, fun d hb => ?_⟩
    have hlt : d < s.heap.objs.size := by
      obtain ⟨_, g1, _⟩ := h1
      obtain ⟨_, g2, _⟩ := h2
      simp only [List.mem_cons, List.mem_nil_iff, or_false] at hb
      rcases hb with rfl | rfl | rfl | rfl | rfl
      · exact Heap.lt_size hz
      · exact Heap.lt_size hI
      · exact Heap.lt_size hO
      · exact Heap.lt_size g1
      · exact Heap.lt_size g2
    rw [upd_ne (Nat.ne_of_lt hlt)]
    exact (hf d hb).1
  done := by
    intro X hP hw hK hc i pins s σ H E I hf st hg
    subst hP hw hK
    obtain ⟨xs, p1, hx⟩ := hg
    obtain ⟨t1, r1, f1⟩ := I.sqx p1
    obtain ⟨hz, hI, ⟨a, b, hO⟩, h1, h2⟩ := st
    have nO : H TO = none := (hf TO (by simp)).1
    have far : l1 ≠ TO := fun e => by rw [SqX, e, nO] at p1; cases p1
    have hT : s.TypeIs (.ref z) "zip" := ⟨_, hz, rfl⟩
    have e1 := r1.length
    unfold pyNext
    refine wpAny_bind (wpAny_attempt (wpAny_callSpecial?_slot (name := Str.ofString "__next__") hT F.slot_zip_next (wpAny_call_entry F.slot_zip_next hT F.entry_zip_next
      (zip2_end (I.ok.hd hc) D (farM_of f1 hz far h1 h2) hz hI h1 f1 (by simp; omega) fun h' e kk he => ?_) (F.args_zip_next_1 _))))
    obtain ⟨o, ho, hcl⟩ := he
    refine wpAny_bind (wpAny_isInstance (T := "StopIteration") (b := true) ⟨o, ho, hcl⟩ isSubtype_stop ?_)
    refine wpAny_pure ⟨rfl, I.turnedL (t' := s.toks) (ch := [z, TI, TO, i1, i2]) (fun d o hb e => ?_) hf⟩
    simp only [List.mem_cons, List.mem_nil_iff, or_false, not_or] at hb
    exact kk d o hb.1 hb.2.2.2.1 e
  self := fun _ _ _ _ _ st h => wpAny_pyIter_zip st.1 h
def iZipX (ta : TA) : TI := fun σ H R => ta σ H fun vs H1 => ∃ t a b xs ys, vs = [.ref a, .ref b] ∧ SqX t H1 a xs ∧ SqX t H1 b ys ∧ R (Ity t a b) H1
theorem pi_zipX {X : Cx} {a b : Expr} {ta : TA} {p pos : Pos} {elts : List Expr} {kt : Nat} {tp : Pos} (hg : Gl X "zip") (hm : X.mg "zip" = none) (ha : PA X [a, b] ta) (hs : starEach [a, b] X.env = (false, eval a X.env) :: starEach [b] X.env := by rfl) (hs2 : (backTo pos (starEach [b] X.env)).any (·.1) = false := by rfl) :
    PI X (.Tuple elts kt tp) (.Call (.Name "zip" p) [a, b] [] pos) (iZipX ta) := by
  intro pins s σ H R I h
  refine Call_ (ld_blt I hg hm boot_zip (PyProof.Rows.callWith_type1 (thn (ha pos pins s σ H _ I h) fun us s1 ⟨vs, H1, I1, r1, q1⟩ => ?_) hs hs2))
  obtain ⟨t, l1, l2, xs, ys, e, p1, p2, q⟩ := q1
  subst e
  cases r1 with
  | cons ra rr => cases rr with
    | cons rb rr =>
      cases rr
      cases ra; cases rb
      obtain ⟨t1, v1, f1⟩ := I1.sqx p1
      obtain ⟨t2, v2, f2⟩ := I1.sqx p2
      refine call_zip2 f1 f2 fun h' n hn hz hI hO h1 h2 kk => ?_
      refine wpAny_pyIter_zip hz ?_
      have I2 : Inv X pins σ H1 { s1 with heap := h', toks := s1.toks } := I1.kept kk
      have ge : ∀ b, n ≤ b → FpOk X pins H1 b := fun b hb => I1.fpOk (by rw [← hn]; exact hb) (I1.hok.fresh (by rw [← hn]; exact hb))
      have ne : ∀ i j : Nat, i ≠ j → (n + i : Nat) ≠ n + j := fun i j h => by omega
      refine ⟨n + 4, [n + 4, n + 2, n + 3, n, n + 1], _, _, H1, rfl, I2, turn_zip2 t l1 l2 (n + 4) (n + 2) (n + 3) n (n + 1) ⟨ne 3 4 (by decide), ne 0 4 (by decide), ne 1 4 (by decide), ne 3 0 (by decide), ne 3 1 (by decide), ne 0 1 (by decide)⟩
        (ne 2 4 (by decide)) (ne 2 3 (by decide)) (ne 2 0 (by decide)) (ne 2 1 (by decide)), ⟨hz, hI, ⟨_, _, hO⟩, h1, h2⟩, fun b hb => ge b ?_, q⟩
      simp only [List.mem_cons, List.mem_nil_iff, or_false] at hb
      rcases hb with rfl | rfl | rfl | rfl | rfl
      · exact Nat.le_add_right _ _
      · exact Nat.le_add_right _ _
      · exact Nat.le_add_right _ _
      · exact Nat.le_refl _
      · exact Nat.le_add_right _ _
theorem comp_zipX {t : Bool} {g : TG} {tf : TT} {te : TE} {Q : List V → Hp → Prop} {σ : St} {H : Hp} {a b : Addr} {xs ys : List V} (Pv : Nat → List V → St → Hp → Prop) (he : xs.length = ys.length) (hn : xs.length ≤ sizeLine) (h0 : Pv 0 [] σ H) (hl : ∀ i rs σ H, i ≤ xs.length → Pv i rs σ H → SqX t H a xs ∧ SqX t H b ys ∧ rs.length ≤ i)
    (hs : ∀ i x y T rs σ H, xs[i]? = some x → ys[i]? = some y → H T = none → Pv i rs σ H → g (.ref T) σ (upd H T (.tup [x, y])) fun σ2 H2 => tf σ2 H2 fun b H3 => if b = true then te σ2 H3 fun y H4 => Pv (i + 1) (rs ++ [y]) σ2 H4 else Pv (i + 1) rs σ2 H3)
    (hd : ∀ rs σ H, Pv xs.length rs σ H → Q rs H) : CompW (Ity t a b) g tf te Q σ H := by
  refine ⟨fun i m rs σ H => m = xs.length - i ∧ i ≤ xs.length ∧ Pv i rs σ H, ⟨xs.length, by simp, Nat.zero_le _, h0⟩, ?_⟩
  rintro i m rs σ H ⟨rfl, hi, p⟩
  obtain ⟨q, q2, hz⟩ := hl i rs σ H hi p
  by_cases hlt : i < xs.length
  · refine .inr ⟨⟨xs, xs[i], ys, ys[i]'(by omega), q, q2, by simp [hlt], by simp [he ▸ hlt]⟩, by omega, Pv (i + 1), fun ys' σ' H' p' => ⟨xs.length - (i + 1), by omega, rfl, hlt, p'⟩, fun v H' y => ?_⟩
    obtain ⟨T, x, y', hT, rfl, rfl, y1, y2⟩ := y
    exact hs i x y' T rs σ _ (y1 xs q) (y2 ys q2) hT p
  · have e : i = xs.length := by omega
    exact .inl ⟨⟨xs, q, by omega⟩, by omega, hd rs σ H (e ▸ p)⟩
/-! ### isinstance, for any class that is built in -/
theorem call_isT (T : String) {X : Cx} {K : PySem.W.Frag} (hK : X.K = K) : CallR X (.builtin "isinstance") (fun xs H Q => ∃ x t b, xs = [x, .ty T] ∧ TyOf K H x t ∧ PySem.W.kitOne K t (.type T) = some b ∧ Q (.bl b) H) := by
  subst hK
  intro pins s σ H xs us Q I r h
  obtain ⟨x, t, b, rfl, ty, e, q⟩ := h
  obtain ⟨u, u2, rfl, rx, r2⟩ := vals2 r
  obtain rfl : u2 = Value.type T := r2
  exact isinst_ok I rx ty e fun tk => ⟨.bl b, H, I.tok _, rfl, q⟩
end L2

end

section
set_option Elab.async false
set_option linter.all false
set_option maxRecDepth 100000
set_option maxHeartbeats 4000000
namespace L2
open PySem PySem.Spec PyProof.Rows
section
variable {X : Cx} {K : PySem.W.Frag}
theorem pe_globI {x : Str} {n : Int} {pos : Pos} (hg : Gl X x) (h : ∃ t, X.mg x = some (.int n t)) (hd : (x == ("__debug__" : Str)) = false := by decide) : PE X (.Name x pos) (tC (.int n)) := by
  obtain ⟨t, h⟩ := h
  exact pe_glob hg h ⟨_, rfl⟩ hd
end
/-- how arguments come: by place with defaults behind; one by name; two by name, the other way round -/
def dP {α : Type} (ds us zs : List α) : List α := us ++ ds
theorem Vals.dP {ds : List V} {es : List Value} (d : Vals ds es) {vs zs : List V} {us ws : List Value} (g : Vals vs us) (h : Vals zs ws) : Vals (dP ds vs zs) (dP es us ws) := g.append d
def k1 {α : Type} (us zs : List α) : List α := match us, zs with
  | [a], [b] => [a, b]
  | _, _ => []
theorem Vals.k1 {vs zs : List V} {us ws : List Value} (g : Vals vs us) (h : Vals zs ws) : Vals (k1 vs zs) (k1 us ws) := by
  cases g with
  | nil => cases h <;> exact .nil
  | cons a r => cases r with
    | cons _ _ => cases h <;> exact .nil
    | nil => cases h with
      | nil => exact .nil
      | cons b r => cases r with
        | nil => exact .cons a (.cons b .nil)
        | cons _ _ => exact .nil
def k2s {α : Type} (us zs : List α) : List α := match us, zs with
  | [a], [b, c] => [a, c, b]
  | _, _ => []
theorem Vals.k2s {vs zs : List V} {us ws : List Value} (g : Vals vs us) (h : Vals zs ws) : Vals (k2s vs zs) (k2s us ws) := by
  cases g with
  | nil => cases h <;> exact .nil
  | cons a r => cases r with
    | cons _ _ => cases h <;> exact .nil
    | nil => cases h with
      | nil => exact .nil
      | cons b r => cases r with
        | nil => exact .nil
        | cons c r => cases r with
          | nil => exact .cons a (.cons c (.cons b .nil))
          | cons _ _ => exact .nil
theorem rl_str : RelV (.ty "str") (.type "str") := rfl
theorem rl_tuple : RelV (.ty "tuple") (.type "tuple") := rfl
theorem rl_list : RelV (.ty "list") (.type "list") := rfl
theorem bt_str : bootBuiltins "str" = some (.type "str") := by decide +kernel
theorem bt_tuple : bootBuiltins "tuple" = some (.type "tuple") := by decide +kernel
theorem bt_list : bootBuiltins "list" = some (.type "list") := by decide +kernel
end L2
namespace Cb
open PySem L2
structure Blt (mg : Str → Option Value) : Prop where
  len : mg "len" = none
  sum : mg "sum" = none
  all : mg "all" = none
  max : mg "max" = none
  min : mg "min" = none
  int : mg "int" = none
  bool : mg "bool" = none
  isinstance : mg "isinstance" = none
  range : mg "range" = none
  enumerate : mg "enumerate" = none
  zip : mg "zip" = none
  str : mg "str" = none
  tuple : mg "tuple" = none
  list : mg "list" = none
/-! ### bags -/
def BagAt (H : Hp) (p : Addr) (n : Nat) : Prop := ∃ a b c : Int, H p = some (.lst [.int a, .int b, .int c]) ∧ 0 ≤ a ∧ 0 ≤ b ∧ b < 2147483647 ∧ 0 ≤ c ∧ c ≤ n
theorem BagAt.mono {H : Hp} {p : Addr} {n m : Nat} (h : BagAt H p n) (hm : n ≤ m) : BagAt H p m := by
  obtain ⟨a, b, c, e, h1, h2, h3, h4, h5⟩ := h
  exact ⟨a, b, c, e, h1, h2, h3, h4, by omega⟩
theorem BagAt.same {H H' : Hp} {p : Addr} {n : Nat} (h : BagAt H p n) (s : Same H H') : BagAt H' p n := by
  obtain ⟨a, b, c, e, r⟩ := h
  exact ⟨a, b, c, s _ _ e, r⟩
theorem BagAt.ne {H : Hp} {p q : Addr} {n : Nat} (h : BagAt H p n) (e : H q = none) : q ≠ p := by
  obtain ⟨a, b, c, e', _⟩ := h
  exact fun z => by rw [z, e'] at e; cases e
def spBag : Sp := fun vs H Q _ => ∃ (s : Int) (k : Nat), vs = [.int s, .int (k : Int)] ∧ Builtin.Int.intBits s ≤ 2 ^ 20 ∧ k ≤ 63 ∧ ∀ (p : Addr) (H' : Hp), H p = none → BagAt H' p k → Same H H' → Q (.ref p) H'
def spDraw : Sp := fun vs H Q _ => ∃ (p : Addr) (m : Int) (n : Nat), vs = [.ref p, .int m] ∧ BagAt H p n ∧ n < 2 ^ 30 ∧ 0 < m ∧ m ≤ 2 ^ 32 ∧
  ∀ (r : Nat) (H' : Hp), (r : Int) < m → BagAt H' p (n + 1) → (∀ b, b ≠ p → H' b = H b) → Q (.int (r : Int)) H'
def spCellAt (K : PySem.W.Frag) : Sp := fun vs H Q _ => ∃ (a : Addr) (ns : List Int) (k : Nat), vs = [.ref a, .int (k : Int)] ∧ SqL K H a (ns.map V.int) ∧ (∀ m ∈ ns, Builtin.Int.intBits m ≤ 2 ^ 20) ∧ ∀ c : Int, Builtin.Int.intBits c ≤ 2 ^ 20 → Q (.int c) H
def spWord : Sp := fun vs H Q _ => ∃ (p : Addr) (n : Nat), vs = [.ref p] ∧ BagAt H p n ∧ n + 2 < 2 ^ 30 ∧ ∀ (r : Nat) (H' : Hp), r ≤ 255 → BagAt H' p (n + 2) → KeepP p H H' → Q (.int (r : Int)) H'
def spCells : Sp := fun vs H Q _ => ∃ (p : Addr) (n : Nat), vs = [.ref p] ∧ BagAt H p n ∧ n + 2 < 2 ^ 30 ∧ ∀ (r : Nat) (H' : Hp), 1 ≤ r → r ≤ 4096 → BagAt H' p (n + 2) → KeepP p H H' → Q (.int (r : Int)) H'
/-- _law_right's of these: a bag of few draws -/
def spRightB : Sp := fun vs H Q _ => ∃ p : Addr, vs = [.ref p] ∧ BagAt H p 64 ∧ ∀ H', KeepP p H H' → Q (.bl true) H'
/-! ### things alike -/
inductive Lk (H : Hp) : Nat → V → V → Prop where
  | int {n : Nat} (i : Int) : Lk H n (.int i) (.int i)
  | seq {n : Nat} {t : Bool} {a b : Addr} {xs ys : List V} (ha : SqX t H a xs) (hb : SqX t H b ys) (hl : xs.length = ys.length) (hz : xs.length ≤ sizeLine) (h : ∀ (i : Nat) (x y : V), xs[i]? = some x → ys[i]? = some y → Lk H n x y) : Lk H (n + 1) (.ref a) (.ref b)
theorem Lk.same {H H' : Hp} {n : Nat} {v w : V} (h : Lk H n v w) (s : Same H H') : Lk H' n v w := by
  induction h with
  | int i => exact .int i
  | seq ha hb hl hz _ ih => exact .seq (s _ _ ha) (s _ _ hb) hl hz ih
def spAlike (n : Nat) : Sp := fun vs H Q _ => ∃ v w, vs = [v, w] ∧ Lk H n v w ∧ ∀ H', Same H H' → Q (.bl true) H'
/-! ### chips -/
def NN (ext : List (Str × V)) : Prop := ext = [] ∨ ∃ r : Int, ext = [(("room" : Str), V.int r)]
structure Ob (C : Addr) (H : Hp) (a p : Addr) (ws : List V) (ext : List (Str × V)) : Prop where
  ex : ∃ dx hd, H a = some (.ins C dx (("head", .str hd) :: ("held", .ref p) :: ext))
  ls : H p = some (.lst ws)
  nn : NN ext
structure ClsOk (K : PySem.W.Frag) (C : Addr) : Prop where
  cl : Cls K C
  head : NoAttr K C "head"
  held : NoAttr K C "held"
  room : NoAttr K C "room"
def spIsNum : Sp := fun vs H Q _ => ∃ a b : Int, vs = [.int a, .int b] ∧ Q (.bl (decide (0 ≤ a ∧ a ≤ b))) H
def spIsWord : Sp := fun vs H Q _ => ∃ a : Int, vs = [.int a] ∧ Q (.bl (decide (0 ≤ a ∧ a ≤ 255))) H
def spChkWord : Sp := fun vs H Q _ => ∃ a : Int, vs = [.int a] ∧ 0 ≤ a ∧ a ≤ 255 ∧ Q .non H
def spLen (C : Addr) (L : List V → Nat) : Sp := fun vs H Q _ => ∃ a p ws ext, vs = [.ref a] ∧ Ob C H a p ws ext ∧ Q (.int (L ws : Int)) H
def spChkC (C : Addr) (L : List V → Nat) : Sp := fun vs H Q _ => ∃ a p ws ext, ∃ c : Int, vs = [.ref a, .int c] ∧ Ob C H a p ws ext ∧ 0 ≤ c ∧ c < L ws ∧ L ws ≤ 5000 ∧ Q .non H
def spChkW (C : Addr) (L : List V → Nat) : Sp := fun vs H Q _ => ∃ a p ws ext, ∃ c v : Int, vs = [.ref a, .int c, .int v] ∧ Ob C H a p ws ext ∧ 0 ≤ c ∧ c < L ws ∧ L ws ≤ 5000 ∧ 0 ≤ v ∧ v ≤ 255 ∧ Q .non H
def spLook (C : Addr) : Sp := fun vs H Q _ => ∃ a p ws ext, ∃ (c : Nat) (x : V), vs = [.ref a, .int (c : Int)] ∧ Ob C H a p ws ext ∧ ws.length ≤ 5000 ∧ ws[c]? = some x ∧ Q x H
def spWrite (C : Addr) : Sp := fun vs H Q _ => ∃ a p ws ext, ∃ (c : Nat) (v : Int), vs = [.ref a, .int (c : Int), .int v] ∧ Ob C H a p ws ext ∧ ws.length ≤ 5000 ∧ c < ws.length ∧ 0 ≤ v ∧ v ≤ 255 ∧ Q .non (upd H p (.lst (ws.set c (.int v))))
def spFixW (C : Addr) : Sp := fun vs H Q _ => ∃ a p ws ext, ∃ (c : Nat) (v : Int), vs = [.ref a, .int (c : Int), .int v] ∧ Ob C H a p ws ext ∧ ws.length ≤ 5000 ∧ c < ws.length ∧ 0 ≤ v ∧ v ≤ 255 ∧ Q .non H
def spState (C : Addr) : Sp := fun vs H Q _ => ∃ a p ws ext, vs = [.ref a] ∧ Ob C H a p ws ext ∧ ∀ q, H q = none → Q (.ref q) (upd H q (.tup ws))
def spMetR (C : Addr) : Sp := fun vs H Q _ => ∃ a p ext, ∃ v : Int, vs = [.ref a, .int 0] ∧ Ob C H a p [.int v] ext ∧ Q (.int v) (upd H p (.lst [.int ((v + 1) % 256)]))
def spInit (K : PySem.W.Frag) : Sp := fun vs H Q _ => ∃ a C dx p hd, vs = [.ref a, .str hd, .ref p] ∧ H a = some (.ins C dx []) ∧ ClsOk K C ∧ ∀ H', H' a = some (.ins C dx [("head", .str hd), ("held", .ref p)]) → (∀ b, b ≠ a → H' b = H b) → Q .non H'
/-- a new chip of plain words -/
def NewOb (C : Addr) (H : Hp) (a : Addr) (ws : List V) (Q : VK) : Prop := ∀ (p : Addr) (H' : Hp), H p = none → Ob C H' a p ws [] → KeepP a H H' → Q .non H'
def spMk1 (C : Addr) : Sp := fun vs H Q _ => ∃ a dx, ∃ v : Int, vs = [.ref a, .int v] ∧ 0 ≤ v ∧ v ≤ 255 ∧ H a = some (.ins C dx []) ∧ NewOb C H a [.int v] Q
def spMkS (C : Addr) : Sp := fun vs H Q _ => ∃ a dx, ∃ (n : Nat) (v : Int), vs = [.ref a, .int (n : Int), .int v] ∧ 1 ≤ n ∧ n ≤ 4096 ∧ 0 ≤ v ∧ v ≤ 255 ∧ H a = some (.ins C dx []) ∧ NewOb C H a (List.replicate n (.int v)) Q
def spMkF (C : Addr) : Sp := fun vs H Q _ => ∃ a dx l, ∃ ws : List Nat, vs = [.ref a, .ref l] ∧ H l = some (.lst (vN ws)) ∧ 1 ≤ ws.length ∧ ws.length ≤ 4096 ∧ (∀ w ∈ ws, w ≤ 255) ∧ H a = some (.ins C dx []) ∧ NewOb C H a (vN ws) Q
end Cb

end

section
set_option Elab.async false
set_option linter.all false
set_option maxRecDepth 100000
set_option maxHeartbeats 4000000
namespace L2
open PySem PySem.Spec PyProof.Rows PySem.SeqAt
section
variable {X : Cx} {K : PySem.W.Frag}
/-! ### f"..{v}", v a text -/
def tFs2 (ta tb : TE) : TE := fun σ H Q => ta σ H fun x H1 => ∃ a : Str, x = .str a ∧ a.length ≤ 1000 ∧ tb σ H1 fun y H2 => ∃ b : Str, y = .str b ∧ b.length ≤ 1000 ∧ Q (.str (Str.empty ++ a ++ b)) H2
theorem pe_fs2 {e v : Expr} {pos p2 : Pos} {ta tb : TE} (he : PE X e ta) (hv : PE X v tb) (hE : evalEach [] X.env = [] := by rfl) : PE X (.JoinedStr [e, .FormattedValue v (-1) none p2] pos) (tFs2 ta tb) := by
  intro pins s σ H Q I h
  refine JoinedStr_many ?_
  rw [hE]
  have l0 : Str.empty.length = 0 := rfl
  have hz : (3000 : Nat) ≤ sizeLine := by decide
  refine joinParts_cons (thn (he pins s σ H _ I h) fun u s1 ⟨x, H1, I1, rx, a, ex, la, q⟩ => ?_)
  subst ex
  obtain ⟨t, rfl⟩ := (show ∃ t, u = Value.str a t from rx)
  refine ⟨by rw [strLen_append]; omega, ?_⟩
  refine joinParts_cons (FormattedValue_plain (thn (hv pins s1 σ H1 _ I1 q) fun u2 s2 ⟨y, H2, I2, ry, b, ey, lb, q2⟩ => ?_))
  subst ey
  obtain ⟨t2, rfl⟩ := (show ∃ t, u2 = Value.str b t from ry)
  refine formatField_str (fun t' tk => ⟨by rw [strLen_append, strLen_append]; omega, ?_⟩) (by omega)
  exact joinParts_nil ⟨.str (Str.empty ++ a ++ b), H2, (I2.tok _).tok _, ⟨_, rfl⟩, q2⟩ (by rw [strLen_append, strLen_append]; omega)
/-! ### two lists of ints compared -/
def rEqL (K : PySem.W.Frag) (neg : Bool) : R2 := fun x y H Q => ∃ a b, ∃ ns ms : List Int, x = .ref a ∧ y = .ref b ∧ SqL K H a (ns.map V.int) ∧ SqL K H b (ms.map V.int) ∧ Q (.bl (neg != decide (ns = ms))) H
theorem vals_intAt : ∀ {ns : List Int} {us : List Value}, Vals (ns.map V.int) us → ∀ (j : Nat) (h : j < us.length) (h2 : j < ns.length), ∃ t, us[j] = Value.int ns[j] t
  | [], _, r, j, h, h2 => absurd h2 (Nat.not_lt_zero _)
  | n :: ns, us, r, j, h, h2 => by
    cases r with
    | cons r1 r2 =>
      cases j with
      | zero => exact r1
      | succ j => exact vals_intAt r2 j (by simpa using h) (by simpa using h2)
theorem all_eq {ns ms : List Int} (hl : ns.length = ms.length) : (List.range ns.length).all (fun j => ns[j]? == ms[j]?) = decide (ns = ms) := by
  rw [Bool.eq_iff_iff, List.all_eq_true, decide_eq_true_iff]
  constructor
  · intro h
    apply List.ext_getElem? 
    intro i
    by_cases hi : i < ns.length
    · exact beq_iff_eq.mp (h i (List.mem_range.mpr hi))
    · rw [List.getElem?_eq_none (by omega), List.getElem?_eq_none (by omega)]
  · intro h i _
    rw [h]; exact beq_iff_eq.mpr rfl
theorem eqL_core {pins : List (Addr × Obj)} {s : Shared} {σ : St} {H : Hp} {a b : Addr} {ns ms : List Int} (I : Inv X pins σ H s) (ha : SqL X.K H a (ns.map V.int)) (hb : SqL X.K H b (ms.map V.int)) :
    ∃ its its2 : Array Value, s.heap.IsList a its ∧ s.heap.IsList b its2 ∧ its.size = ns.length ∧ its2.size = ms.length ∧ ∀ (A : Around) j (h1 : j < its.size) (h2 : j < its2.size), EqAt A s its[j] its2[j] (ns[j]? == ms[j]?) := by
  obtain ⟨t1, r1, p1, _⟩ := I.list ha
  obtain ⟨t2, r2, p2, _⟩ := I.list hb
  have l1 := r1.length
  have l2 := r2.length
  rw [List.length_map] at l1 l2
  refine ⟨t1.toArray, t2.toArray, p1.isList, p2.isList, by simp [l1], by simp [l2], fun A j h1 h2 => ?_⟩
  have g1 : j < t1.length := by simpa using h1
  have g2 : j < t2.length := by simpa using h2
  obtain ⟨u1, e1⟩ := vals_intAt r1 j g1 (by omega)
  obtain ⟨u2, e2⟩ := vals_intAt r2 j g2 (by omega)
  have e : (ns[j]? == ms[j]?) = (ns[j]'(by omega) == ms[j]'(by omega)) := by
    rw [List.getElem?_eq_getElem (by omega), List.getElem?_eq_getElem (by omega)]
    rfl
  rw [e]
  simp only [List.getElem_toArray, e1, e2]
  exact EqAt.int_int _ _ _ _
theorem op_eqL (hu : X.A.units < cLine) (hK : X.K = K) : OpR X (compareOp .Eq) (rEqL K false) := by
  subst hK
  rintro pins s σ H x y v u Q I rx ry ⟨a, b, ns, ms, rfl, rfl, ha, hb, q⟩
  cases rx; cases ry
  obtain ⟨i1, i2, g1, g2, l1, l2, he⟩ := eqL_core I ha hb
  by_cases hl : ns.length = ms.length
  · refine RcAt.lists (e := fun j => ns[j]? == ms[j]?) g1 g2 (by omega) hu (fun j h1 h2 => he _ j h1 h2) _ _ _ _ ⟨.bl (false != decide (ns = ms)), H, I, ?_, q⟩
    rw [l1, all_eq hl]; show _ = Value.bool _; rw [Bool.false_bne]
  · rw [decide_eq_false (fun e => hl (by rw [e]))] at q
    exact RcAt.lists_lengths g1 g2 (by rw [l1, l2]; exact bne_iff_ne.mpr hl) hu _ _ _ _ ⟨.bl false, H, I, rfl, q⟩
end
end L2

end

section
set_option Elab.async false
set_option linter.all false
set_option maxRecDepth 100000
set_option maxHeartbeats 4000000
namespace L2
open PySem PySem.Spec PyProof.Rows Builtin
/-! ### two own objects of one class compared, by the class's own __eq__ -/
section
variable {prog : Program} {w : World} {A : Around} {E : Value → Shared → Prop} {s : Shared} {K : PySem.W.Frag} {x y C f : Addr} {ox oy : Obj} {od oe : Option Obj}
/-- what __eq__ told: a truth -/
def BoolIs (Q : Bool → Shared → Prop) : Value → Shared → Prop
  | .bool b, s' => Q b s'
  | _, _ => False
theorem neEntry {Q : Fin → Shared → Prop} (hu : A.units < cLine) (X : K.In s.heap) (I : PySem.W.InstAt s.heap x ox C od) (hs : PySem.W.findIn K (.ref C) "__eq__" = some (some (.ref f))) (hf : PySem.W.isFn K (.ref f) = true)
    (h : wpAny (model prog w) A (call (.ref f) [.ref x, .ref y]) (BoolIs fun b s' => Q (.done (.ret (.bool (!b)))) s') E s) : wpAny (model prog w) A (Builtin.«object.__ne__» ⟨[.ref x, .ref y], []⟩) Q E s := by
  delta Builtin.«object.__ne__»
  refine wpAny_bind (wpAny_pure ?_)
  refine wpAny_bind (wpAny_cRoomFor hu ?_)
  refine wpAny_bind (m := callSpecialIfBound? (.ref x) (Str.ofString "__eq__") [.ref y]) (PySem.W.ifBound_K X I hs hf (wpAny_mono h (fun r s' hr => ?_) fun _ _ z => z))
  cases r with
  | bool b => exact wpAny_bind (wpAny_truthy_bool (wpAny_pure hr))
  | _ => exact hr.elim
end
structure NeOk (K : PySem.W.Frag) (C : Addr) : Prop where
  ne : PySem.W.findIn K (.ref C) "__ne__" = some (some (.builtin "object.__ne__"))
  ob : PySem.W.subIn K (.ref C) (.type "object") = some true
def rCmpO (P : Program) (w : World) (K : PySem.W.Frag) (mg : Str → Option Value) (base : Heap) (k : Nat) (neg : Bool) : R2 := fun x y H Q => ∃ a b C dx fs dy gs gV sp, x = .ref a ∧ y = .ref b ∧ H a = some (.ins C dx fs) ∧ H b = some (.ins C dy gs) ∧ Mth P w K mg base k C "__eq__" [] gV sp ∧ (neg = true → NeOk K C) ∧
  sp (gV [x, y] []) H (fun v H2 => ∃ c, v = .bl c ∧ Q (.bl (neg != c)) H2) E0
section
variable {X : Cx}
end
end L2

end

section
set_option Elab.async false
set_option linter.all false
set_option maxRecDepth 100000
set_option maxHeartbeats 4000000
namespace L2
open PySem PySem.Spec PyProof.Rows
/-! ### del xs[:1] -/
theorem none_gone {sel : Nat → Bool} : ∀ (l : List Value) (n : Nat), (∀ k, n ≤ k → k < n + l.length → sel k = false) → ((l.zipIdx n).filterMap fun x => if sel x.2 = true then none else some x.1) = l
  | [], _, _ => rfl
  | a :: l, n, h => by
    rw [List.zipIdx_cons, List.filterMap_cons]
    dsimp only
    rw [h n (Nat.le_refl _) (by rw [List.length_cons]; omega), if_neg Bool.false_ne_true]
    dsimp only
    rw [none_gone l (n + 1) fun k h1 h2 => h k (by omega) (by rw [List.length_cons]; omega)]
theorem head_gone {sel : Nat → Bool} (l : List Value) (h : ∀ k, k < l.length → sel k = decide (k = 0)) : (l.zipIdx.filterMap fun x => if sel x.2 = true then none else some x.1) = l.drop 1 := by
  cases l with
  | nil => rfl
  | cons a l =>
    rw [List.zipIdx_cons, List.filterMap_cons]
    dsimp only
    rw [h 0 (by simp), if_pos (by decide)]
    dsimp only
    exact none_gone l (0 + 1) fun k h1 h2 => by rw [h k (by rw [List.length_cons]; omega)]; exact decide_eq_false (by omega)
section
variable {prog : Program} {w : World} {A : Around} {E : Value → Shared → Prop} {s : Shared}
theorem del_slice1 {l sl : Addr} {its : List Value} {n : Nat} {vu : Value} {Q : Unit → Shared → Prop} (hl : s.heap.get? l = some { cls := .type "list", data := .seq its.toArray n }) (hs : s.heap.IsSliceOf sl .none vu .none) (pu : IsPart vu (some 1)) (hsz : its.length ≤ sizeLine)
    (q : ∀ f : Array Value → Array Value, f its.toArray = (its.drop 1).toArray → Q () { s with heap := s.heap.update l (Obj.mapSeq f) }) : wpAny (model prog w) A (delItem (.ref l) (.ref sl)) Q E s := by
  obtain ⟨os, hos, hcs, hds⟩ := id hs
  have hT : s.TypeIs (.ref sl) "slice" := ⟨os, hos, hcs⟩
  have hL : s.TypeIs (.ref l) "list" := ⟨_, hl, rfl⟩
  refine wpAny_delItem_slot hL (by decide) F.slot_list_delitem (wpAny_call_entry F.slot_list_delitem hL F.entry_list_delitem ?_ (F.args_list_delitem_2 _ _))
  show wpAny _ _ (Builtin.List.listSubscript? (.ref sl) >>= _) _ _ s; refine wpAny_bind ?_; delta Builtin.List.listSubscript?
  refine wpAny_bind (wpAny_specialOf hT slice_no_index ?_); simp only [Option.isNone_none, if_true]; refine wpAny_pure ?_
  show wpAny _ _ (typeOf (.ref sl) >>= _) _ _ s; refine wpAny_bind (wpAny_typeOf hT ?_); rw [if_neg (by decide), listSliceParts_eq]
  refine wpAny_bind (wpAny_bind (wpAny_field hos hds (x := .none) rfl (wpAny_bind (wpAny_listPart .none ?_)))); rw [if_neg (show ¬ ((rawPart none == rawInt 0) = true) from Bool.false_ne_true)]
  refine wpAny_bind (wpAny_field hos hds (x := .none) rfl (wpAny_bind (wpAny_listPart .none ?_)))
  refine wpAny_bind (wpAny_field hos hds (x := vu) rfl (wpAny_bind (wpAny_listPart pu (wpAny_pure ?_))))
  refine wpAny_bind (m := Builtin.List.listItems (.ref l)) ?_; delta Builtin.List.listItems
  refine wpAny_bind (wpAny_seqItems hl rfl (wpAny_pure (wpAny_bind (wpAny_of_eq (sliceIndices_raw none (some 1) none its.toArray.size (by simp)) ?_))))
  refine wpAny_bind (wpAny_rule ?_)
  have key : ∀ sel : Nat → Bool, (∀ k, k < its.length → sel k = decide (k = 0)) → ((its.toArray.toList.zipIdx.filterMap fun x => if sel x.2 = true then none else some x.1).toArray) = (its.drop 1).toArray := fun sel h => by
    rw [show its.toArray.toList = its by simp, head_gone its h]
  refine wpAny_bind (wpAny_updateSeq hl rfl ?_ (by simpa using hsz) ?_)
  · refine wpAny_bind (wpAny_letGo (wpAny_pure ⟨_, rfl, q _ (key _ fun k hk => ?_)⟩))
    have e : sliceBounds none (some 1) none its.toArray.size = (0, max 0 (min 1 (its.toArray.size : Int)), 1) := by simp [sliceBounds]
    rw [e]
    show (if (1 : Int) > 0 then (decide ((0 : Int) ≤ (k : Int)) && decide ((k : Int) < max 0 (min 1 (its.toArray.size : Int))) && (((k : Int) - 0) % 1 == 0)) else _) = decide (k = 0)
    rw [if_pos (by decide), Int.emod_one, decide_eq_true (show (0 : Int) ≤ (k : Int) by omega), Bool.true_and, show ((0 : Int) == 0) = true from rfl, Bool.and_true, decide_eq_decide, show its.toArray.size = its.length by simp]
    omega
  · refine Nat.le_succ_of_le (Nat.le_trans ?_ hsz)
    rw [List.size_toArray]
    refine Nat.le_trans (List.length_filterMap_le _ _) ?_
    simp
end
section
variable {X : Cx} {o : Expr} {td : TE} {pos p1 p2 p3 : Pos} {k0 : Nat}
def sDel1 (td : TE) : TS := fun D σ H => td σ H fun x H1 => ∃ a xs, x = .ref a ∧ H1 a = some (.lst xs) ∧ D.nx σ (upd H1 a (.lst (xs.drop 1)))
theorem ps_del1 (ho : PE X o td) : PS X (.Delete [.Subscript o (.Slice none (some (.Constant (.int 1) k0 p3)) none p2) p1] pos) (sDel1 td) := by
  intro pins s σ H D I h
  refine wpAny_Delete (wpAny_deleteEach_cons (wpAny_delete_Subscript (thn (ho pins s σ H _ I h) fun u s1 ⟨x, H1, I1, rx, a, xs, ex, ea, q1⟩ => ?_)))
  subst ex
  obtain rfl : u = Value.ref a := rx
  refine wpAny_Slice ?_
  rw [evalPart_none]
  refine wpAny_pure (thn (po_some (X := X) (pe_int (X := X) (i := 1) (j := k0) (pos := p3)) pins s1 σ H1 (fun v H2 => v = some 1 ∧ H2 = H1) I1 ⟨1, rfl, rfl, rfl⟩) fun vu s2 ⟨l, H2, I2, pu, el, eh⟩ => ?_)
  subst el eh
  refine wpAny_pure ?_
  have I4 : Inv X pins σ H2 { s2 with heap := s2.heap.push { cls := .type "slice", data := .fields #[.none, vu, .none] } } := I2.kept (t' := s2.toks) fun b ob q => Heap.get?_push_of_some _ q
  obtain ⟨z, its, n, r, hl, e⟩ := I4.lstM ea
  refine del_slice1 (s := { s2 with heap := s2.heap.push { cls := .type "slice", data := .fields #[.none, vu, .none] } }) e (Heap.IsSliceOf.new ..) pu (by omega) fun f hf => ?_
  exact wpAny_deleteEach_nil ⟨σ, _, I4.lset (t' := s2.toks) ea e hf (r.drop 1) (by rw [List.length_drop]; omega), q1⟩
end
section
variable {X : Cx} {K : PySem.W.Frag}
theorem pe_globS {x : Str} {z : Str} {pos : Pos} (hg : Gl X x) (h : ∃ t, X.mg x = some (.str z t)) (hd : (x == ("__debug__" : Str)) = false := by decide) : PE X (.Name x pos) (tC (.str z)) := by
  obtain ⟨t, h⟩ := h
  exact pe_glob hg h ⟨_, rfl⟩ hd
theorem pe_globR {x : Str} {a : Addr} {pos : Pos} (hg : Gl X x) (h : X.mg x = some (.ref a)) (hd : (x == ("__debug__" : Str)) = false := by decide) : PE X (.Name x pos) (tC (.ref a)) := pe_glob hg h rfl hd
/-- isinstance(x, C), C an own class -/
theorem call_isC (hK : X.K = K) : CallR X (.builtin "isinstance") (fun xs H Q => ∃ x t D b, xs = [x, .ref D] ∧ TyOf K H x t ∧ PySem.W.kitOne K t (.ref D) = some b ∧ Q (.bl b) H) := by
  subst hK
  intro pins s σ H xs us Q I r h
  obtain ⟨x, t, D, b, rfl, ty, e, q⟩ := h
  obtain ⟨u, u2, rfl, rx, r2⟩ := vals2 r
  obtain rfl : u2 = Value.ref D := r2
  exact isinst_ok I rx ty e fun tk => ⟨.bl b, H, I.tok _, rfl, q⟩
/-- what isinstance asks of an own class -/
structure TyC (K : PySem.W.Frag) (C D : Addr) : Prop where
  c1 : PySem.W.findIn K (.ref C) "__class__" = some (some (.builtin "object.__class__"))
  c2 : PySem.W.specialIn K (.builtin "object.__class__") "__get__" = some (some (.builtin "getset_descriptor.__get__"))
  c3 : PySem.W.takesIn K (.builtin "object.__class__") = some true
  c4 : PySem.W.mroIn K C (.type "object") = some true
  c5 : PySem.W.kitOne K (.ref C) (.ref D) = some true
end
theorem kit_isIn {K : PySem.W.Frag} {t : Value} {D : Addr} (h : PySem.W.isIn K t D = true) : PySem.W.kitOne K t (.ref D) = some true := by
  unfold PySem.W.isIn at h
  unfold PySem.W.kitOne PySem.W.kitCls
  by_cases e : (t == Value.ref D) = true
  · rw [if_pos e]
  · rw [if_neg e]
    simp only [Bool.or_eq_true, Bool.and_eq_true, beq_iff_eq] at h
    rcases h with h | h
    · exact absurd (beq_iff_eq.mpr h) e
    · dsimp only
      rw [if_pos (by simp only [Bool.and_eq_true, beq_iff_eq]; exact h.1.1)]
      exact h.2
end L2

end

section
set_option Elab.async false
set_option linter.all false
set_option maxRecDepth 100000
set_option maxHeartbeats 4000000
namespace L2
open PySem PySem.Spec PyProof.Rows
/-! ### str of an own object -/
def tStrO (P : Program) (w : World) (K : PySem.W.Frag) (mg : Str → Option Value) (base : Heap) (k : Nat) (ta : TE) : TE := fun σ H Q => ta σ H fun x H1 => ∃ a C dx fs gV sp, x = .ref a ∧ H1 a = some (.ins C dx fs) ∧ Mth P w K mg base k C "__str__" [] gV sp ∧
  sp (gV [x] []) H1 (fun v H2 => ∃ z : Str, v = .str z ∧ Q (.str z) H2) E0
section
variable {X : Cx} {e : Expr} {p pos : Pos} {ta : TE}
def strQ (X : Cx) (k : Nat) (Q : VK) (vs : List V) (H1 : Hp) : Prop := match vs with
  | [x] => ∃ a C dx fs gV sp, x = .ref a ∧ H1 a = some (.ins C dx fs) ∧ Mth X.prog X.w X.K X.mg X.base k C "__str__" [] gV sp ∧ sp (gV [x] []) H1 (fun v H2 => ∃ z : Str, v = .str z ∧ Q (.str z) H2) E0
  | _ => False
theorem Room.in2 {k : Nat} {A : Around} (r : Room (k + 2) A) : Room k A.in1.in1 := r.in1.in1
theorem pe_strO {P : Program} {w : World} {K : PySem.W.Frag} {mg : Str → Option Value} {base : Heap} (k : Nat) (hX : X.prog = P ∧ X.w = w ∧ X.K = K ∧ X.mg = mg ∧ X.base = base) (hr : Room (k + 2) X.A) (hg : Gl X "str") (hm : X.mg "str" = none) (he : PE X e ta)
    (hst : starEach [e] X.env = (false, eval e X.env) :: starEach [] X.env := by rfl) : PE X (.Call (.Name "str" p) [e] [] pos) (tStrO P w K mg base k ta) := by
  obtain ⟨rfl, rfl, rfl, rfl, rfl⟩ := hX
  intro pins s σ H Q I h
  refine wpAny_Call_Name_kw (ld_blt I hg hm bt_str ?_ (by decide) (by decide))
  refine PyProof.Rows.callWith_type1 (thn (pa_cons (t := tNil) he pa_nil hst pos pins s σ H (strQ X k Q) I h) fun us s1 ⟨vs, H1, I1, r1, q1⟩ => ?_) hst rfl
  cases r1 with
  | nil => exact q1.elim
  | cons ra rr => cases rr with
    | cons _ _ => exact q1.elim
    | nil =>
      obtain ⟨a, C, dx, fs, gV, sp, ex, ea, M, q⟩ := q1
      obtain ⟨c, f, fd, ps, g, hm, F, hb⟩ := M
      subst ex
      cases ra
      obtain ⟨mA, O, _⟩ := ins_get I1.hok ea
      obtain ⟨od, J, _⟩ := O.look
      have hr2 := hr.in2
      have rv : Vals (gV [V.ref a] []) (g [Value.ref a] []) := hb.rel (vs := [V.ref a]) (us := [Value.ref a]) (zs := []) (ws := []) (.cons rfl .nil) .nil
      have hl : (g [Value.ref a] []).length = ps.length := by rw [← rv.length]; exact F.len _ _ _ _ q
      refine PySem.W.kso_call hr2.units0 I1.kIn J hm.at_ hm.fn ?_
      have W : wpAny (model X.prog X.w) X.A.in1.in1 (call (.ref f) [.ref a]) (EP X pins σ (fun v H2 => ∃ z : Str, v = .str z ∧ Q (.str z) H2)) X.xe s1 := by
        refine wpAny_call (codeAny_mono (F.run X.A.in1.in1 X.stack s1 H1 ⟨[.ref a], []⟩ (g [.ref a] []) (gV [.ref a] []) _ E0 hr2 I1.env0.in1.in1 (hb.to s1 [.ref a] [] I1.kIn hl) rv q) fun r s' hq => ?_)
        cases r with
        | error e => exact pass0 pins σ H1 s1 e s' I1 hq
        | ok fl =>
          cases fl with
          | ret u => exact I1.after hq
          | next => exact False.elim hq
          | brk => exact False.elim hq
          | cont => exact False.elim hq
      refine wpAny_mono W (fun u s' hu => ?_) fun _ _ z => z
      obtain ⟨v, H2, I2, rv, z, rfl, qz⟩ := hu
      obtain ⟨t, rfl⟩ := (show ∃ t, u = Value.str z t from rv)
      exact ⟨.str z, H2, I2, ⟨_, rfl⟩, qz⟩
/-! ### sep.join(xs), xs a list of texts -/
theorem vals_strs : ∀ {ys : List Str} {us : List Value}, Vals (ys.map V.str) us → StrsAre us ys
  | [], _, r => by cases r; exact .nil
  | y :: ys, us, r => by
    cases r with
    | cons r1 r2 =>
      obtain ⟨t, rfl⟩ := (show ∃ t, _ = Value.str y t from r1)
      exact .cons y t (vals_strs r2)
def rJoin (K : PySem.W.Frag) : V → List V → Hp → VK → Prop := fun x vs H Q => ∃ (z : Str) (l : Addr) (ys : List Str), x = .str z ∧ vs = [.ref l] ∧ SqL K H l (ys.map V.str) ∧ (ys.map (·.length)).sum + ys.length * z.length ≤ 16777216 ∧ Q (.str (Txt.join z ys)) H
theorem mt_join {K : PySem.W.Frag} (hK : X.K = K) : MtR X "str.join" (rJoin K) := by
  subst hK
  rintro pins s σ H x vs v us Q I rx rv ⟨z, l, ys, rfl, rfl, hl, hz, q⟩
  obtain ⟨t, rfl⟩ := (show ∃ t, v = Value.str z t from rx)
  obtain ⟨u, rfl, ru⟩ := vals1 rv
  cases ru
  obtain ⟨its, r, p, _⟩ := I.list hl
  exact join_list p.isList (by simpa using vals_strs r) hz fun t' k => ⟨.str (Txt.join z ys), H, I.tok _, ⟨_, rfl⟩, q⟩
end
/-! ### xs[:1] = [] -/
section
variable {prog : Program} {w : World} {A : Around} {E : Value → Shared → Prop} {s : Shared}
end
section
variable {X : Cx} {o : Expr} {td tv : TE} {pos p1 p2 p3 : Pos} {k0 : Nat}
def gHead (td : TE) : TG := fun v σ H Q => td σ H fun x H1 => ∃ a b xs, x = .ref a ∧ v = .ref b ∧ a ≠ b ∧ H1 a = some (.lst xs) ∧ H1 b = some (.lst []) ∧ xs.length ≤ 100000 ∧ Q σ (upd H1 a (.lst (xs.drop 1)))
end
end L2

end

section
set_option Elab.async false
set_option linter.all false
set_option maxRecDepth 100000
set_option maxHeartbeats 4000000
namespace L2
open PySem PySem.Spec PyProof.Rows HT PySem.SeqAt
/-! ### tuples: the whole slice, () + t, t[::-1], t != () -/
section
section
variable {prog : Program} {w : World} {A : Around} {E : Value → Shared → Prop} {s : Shared}
end
end
section
variable {X : Cx} {K : PySem.W.Frag}
/-- t[lo:hi]: a tuple of these items, it itself where it is the whole -/
def rSlT2 (K : PySem.W.Frag) : V → Option Int → Option Int → Hp → VK → Prop := fun x lo hi H Q => ∃ a xs, x = .ref a ∧ SqT K H a xs ∧ (cutV xs lo hi = xs → Q (.ref a) H) ∧ ∀ p, H p = none → Q (.ref p) (upd H p (.tup (cutV xs lo hi)))
/-- t + u -/
def rCatT2 (K : PySem.W.Frag) : R2 := fun x y H Q => ∃ a b xs ys, x = .ref a ∧ y = .ref b ∧ SqT K H a xs ∧ SqT K H b ys ∧ xs.length + ys.length ≤ sizeLine ∧
  (xs = [] → Q (.ref b) H) ∧ (ys = [] → Q (.ref a) H) ∧ (∀ p, H p = none → Q (.ref p) (upd H p (.tup (xs ++ ys))))
def tRevT (K : PySem.W.Frag) (te : TE) : TE := fun σ H Q => te σ H fun x H1 => ∃ a xs, x = .ref a ∧ SqT K H1 a xs ∧ ∀ p, H1 p = none → Q (.ref p) (upd H1 p (.tup xs.reverse))
/-- t != () -/
def rNeT0 (K : PySem.W.Frag) : R2 := fun x y H Q => ∃ a b xs, x = .ref a ∧ y = .ref b ∧ SqT K H a xs ∧ SqT K H b [] ∧ Q (.bl (!xs.isEmpty)) H
/-- xs != [] -/
def rNeL0 (K : PySem.W.Frag) : R2 := fun x y H Q => ∃ a b xs, x = .ref a ∧ y = .ref b ∧ SqL K H a xs ∧ SqL K H b [] ∧ Q (.bl (!xs.isEmpty)) H
end
end L2

end

section
set_option Elab.async false
set_option linter.all false
set_option maxRecDepth 100000
set_option maxHeartbeats 4000000
namespace L2
open PySem PySem.Spec PyProof.Rows HT
/-! ### an exception's way: which objects it changes -/
/-- but for what stands at ch, and for the slots of what stands at fs, all is as it was -/
def Slid (fs ch : List Addr) (h h' : Heap) : Prop := ∀ b o, h.get? b = some o → b ∉ ch → (b ∉ fs → h'.get? b = some o) ∧ ∃ sl, h'.get? b = some { o with slots := sl }
/-- an exception of the class cls at e, the first entry of its way at T -/
def XAt (h : Heap) (e T : Addr) (cls fl : Value) (od : Option Addr) : Prop := ∃ oe vs oT ts, h.get? e = some oe ∧ (oe.cls = cls ∧ oe.dict = od) ∧ oe.data = .fields vs ∧ vs[1]? = some (.ref T) ∧ T ≠ e ∧ h.get? T = some oT ∧ oT.data = .fields ts ∧ ts[3]? = some fl
section
variable {M : Model} {A : Around} {E : Value → Shared → Prop} {s : Shared}
end
end L2

end

section
set_option Elab.async false
set_option linter.all false
set_option maxRecDepth 100000
set_option maxHeartbeats 4000000
namespace L2
open PySem PySem.Spec PyProof.Rows HT
section
variable {P : Program} {w : World} {H H' : Hp} {h h' : Heap} {fs ch : List Addr}
end
section
variable {X : Cx} {pins : List (Addr × Obj)} {σ : St} {H : Hp} {s : Shared} {h' : Heap} {ch : List Addr}
end
/-! ### how an exception of an own class lies behind a call -/
def CX1 (P : Program) (w : World) : CXT := fun outer H s E e s' => ∃ ea T H' C od, e = .ref ea ∧ s'.os = s.os ∧ AllBare s'.gens ∧ Un (frs outer) [] H H' s.heap s'.heap ∧ HOk P w H' s'.heap ∧ XAt s'.heap ea T (.ref C) .none od ∧
  s.heap.get? ea = none ∧ s.heap.get? T = none ∧ H' ea = none ∧ H' T = none ∧ E (.ref C) od H'
end L2

end

section
set_option Elab.async false
set_option linter.all false
set_option maxRecDepth 100000
set_option maxHeartbeats 4000000
namespace L2
open PySem PySem.Spec PyProof.Rows HT
/-! ### an own class under ValueError, without an __init__ of its own -/
def NsK (K : PySem.W.Frag) (N : Addr) : Prop := ∃ c d es ep sl, K.lookup N = some ⟨c, d, .dict es ep, sl⟩ ∧ StrKeys es ∧ nsFind es "__init__" = none
def bmV : List Value := [.type "ValueError", .type "Exception", .type "BaseException", .type "object"]
inductive TailK (K : PySem.W.Frag) : List Value → Prop
  | base : TailK K bmV
  | own {A : Addr} {c0 : Value} {dd : Option Addr} {cd : ClassData} {sl : Array (Option Value)} {tl : List Value} : K.lookup A = some ⟨c0, dd, .cls cd, sl⟩ → NsK K cd.ns → TailK K tl → TailK K (.ref A :: tl)
structure ExcK (K : PySem.W.Frag) (C : Addr) : Prop where
  ex : ∃ nm q N bs bm hdct sn sub ab col dd k0 k1 k2 k3 k5, K.lookup C = some (excClassObj nm q C N bs bm hdct sn sub ab col dd k0 k1 k2 k3 k5 "ValueError.__new__") ∧ NsK K N ∧ TailK K bm
section
variable {X : Cx} {x : Str} {C : Addr} {e : Expr} {te : TE} {np cpos pos : Pos} {R : Hp → Prop}
def one1 (R : Hp → Prop) : List V → Hp → Prop
  | [_], H => R H
  | _, _ => False
end
end L2

end

section
set_option Elab.async false
set_option linter.all false
set_option maxRecDepth 100000
set_option maxHeartbeats 4000000
namespace L2
open PySem PySem.Spec PyProof.Rows HT
/-! ### a def that may raise -/
structure CalX (P : Program) (w : World) (K : PySem.W.Frag) (mg : Str → Option Value) (base : Heap) (k : Nat) (x : Str) (ps : List Str) (sp : Sp) : Prop where
  ex : ∃ f fd, FnOk P w K mg base (CX1 P w) k f fd ps sp ∧ mg x = some (.ref f) ∧ PySem.W.keepIn K (.ref f) = true ∧ Binds K fd ps []
/-! ### within an except suite -/
abbrev Cx.marked (X : Cx) (e : Value) : Cx := { X with A := X.A.mark (some e), calm := false }
/-- an object of the class cls -/
def xIs (ea : Addr) (cls : Value) (od : Option Addr) : Heap → Prop := fun h => ∃ o vs, h.get? ea = some o ∧ (o.cls = cls ∧ o.dict = od) ∧ o.data = .fields vs
section
variable {X : Cx} {pins : List (Addr × Obj)} {σ : St} {H : Hp} {s : Shared}
end
end L2

end

section
set_option Elab.async false
set_option linter.all false
set_option maxRecDepth 100000
set_option maxHeartbeats 4000000
namespace L2
open PySem PySem.Spec PyProof.Rows HT
/-! ### try: x = f(e)  except C as n: y = n -/
def tTryC (K : PySem.W.Frag) (sp : Sp) (i j l : Nat) (Cb : Addr) (ta : TA) : TS := fun D σ H => ta σ H fun vs H1 => sp (vs ++ []) H1 (fun v H2 => D.nx (σ.set i (some v)) H2)
  fun cls od H2 => PySem.W.exmOne K cls (.ref Cb) = some true ∧ ∀ ea, H2 ea = none → D.nx ((((σ.set j (some (.ref ea))).set l (some (.ref ea))).set j (some .non)).set j none) (upd H2 ea (.ext (xIs ea cls od)))
section
variable {X : Cx} {k : Nat} {ps : List Str} {sp : Sp} {x fn cn n y : Str} {i j l : Nat} {Cb : Addr} {e : Expr} {t : TA} {px p1 p2 p3 p4 p5 p6 p7 p8 p9 : Pos}
end
end L2

end

section
set_option Elab.async false
set_option linter.all false
set_option maxRecDepth 100000
set_option maxHeartbeats 4000000
namespace L2
open PySem PySem.Spec PyProof.Rows HT PySem.W PySem.Calls
/-! ### isinstance of an exception -/
section
variable {prog : Program} {w : World} {A : Around} {E : Value → Shared → Prop} {s : Shared} {K : Frag} {x C : Addr} {ox : Obj} {oD : Option Obj}
/-- what the fragment tells of an own exception's class -/
structure XCls (K : Frag) (C : Addr) : Prop where
  look : ∃ c d cd sl, K.lookup C = some ⟨c, d, .cls cd, sl⟩
  ga : findIn K (.ref C) "__getattribute__" = some (some (.builtin "BaseException.__getattribute__"))
  gr : findIn K (.ref C) "__getattr__" = some none
  cf : ∀ oD : Option Obj, findObj K C oD "__class__" = some (.bind (.builtin "getset_descriptor.__get__") (.builtin "object.__class__"))
  sub : subIn K (.ref C) (.type "BaseException") = some true
  mro : mroIn K C (.type "object") = some true
end
section
variable {X : Cx} {K : Frag}
end
end L2

end

section
set_option Elab.async false
set_option linter.all false
set_option maxRecDepth 100000
set_option maxHeartbeats 4000000
namespace L2
open PySem PySem.Spec PyProof.Rows HT
section
variable {X : Cx} {K : PySem.W.Frag}
/-! ### f"{v}..", v a small int -/
def tFsI (ta tb : TE) : TE := fun σ H Q => ta σ H fun x H1 => ∃ i : Int, x = .int i ∧ i.natAbs < 1000 ∧ tb σ H1 fun y H2 => ∃ b : Str, y = .str b ∧ b.length ≤ 1000 ∧ ∀ z : Str, Q (.str z) H2
end
end L2

end

section
set_option Elab.async false
set_option linter.all false
set_option maxRecDepth 100000
set_option maxHeartbeats 4000000
namespace L2
open PySem PySem.Spec PyProof.Rows HT
/-! ### an exception of a callee passes through the body of a def -/
section
variable {P : Program} {w : World} {K : PySem.W.Frag} {mg : Str → Option Value} {base : Heap} {N : List Str} {qual : Str} {scope : Scope} {f : Addr} {cd : Value} {A : Around} {outer : List Env} {s : Shared} {H : Hp} {E : XK}
variable {k : Nat} {ps : List Str} {sp : Sp} {x : Str} {p pos : Pos} {e : Expr} {es : List Expr} {t : TA}
end
/-! ### n.bit_length() -/
def rBitLen : V → List V → Hp → VK → Prop := fun x vs H Q => ∃ i : Int, x = .int i ∧ vs = [] ∧ Q (.int (Builtin.Int.intBits i : Nat)) H
end L2

end

section
set_option Elab.async false
set_option linter.all false
set_option maxRecDepth 100000
set_option maxHeartbeats 4000000
namespace L2
open PySem PySem.Spec PyProof.Rows HT
/-! ### try: x = f(e, ..)  except C as n: y = n -/
section
variable {X : Cx} {k : Nat} {ps : List Str} {sp : Sp} {x fn cn n y : Str} {i j l : Nat} {Cb : Addr} {e : Expr} {es : List Expr} {t : TA} {px p1 p2 p3 p4 p5 p6 p7 p8 p9 : Pos}
end
end L2

end

section
set_option Elab.async false
set_option linter.all false
set_option maxRecDepth 100000
set_option maxHeartbeats 4000000
namespace L2
open PySem PySem.Spec PyProof.Rows HT
/-! ### enumerate of a tuple -/
def IteT (K : PySem.W.Frag) (a : Addr) : It :=
  ⟨fun i H => ∃ xs x, SqT K H a xs ∧ xs[i]? = some x,
   fun i H v H' => ∃ T x, H T = none ∧ v = .ref T ∧ H' = upd H T (.tup [.int i, x]) ∧ ∀ xs, SqT K H a xs → xs[i]? = some x,
   fun i H => ∃ xs, SqT K H a xs ∧ xs.length = i⟩
def iEnumT (K : PySem.W.Frag) (ta : TA) : TI := fun σ H R => ta σ H fun vs H1 => ∃ a, vs = [.ref a] ∧ (∃ xs, SqT K H1 a xs) ∧ R (IteT K a) H1
end L2

end

section
set_option Elab.async false
set_option linter.all false
set_option maxRecDepth 100000
set_option maxHeartbeats 4000000
namespace L2
open PySem PySem.Spec PyProof.Rows HT
/-! ### sorted(d), the keys ints -/
section
variable {prog : Program} {w : World} {A : Around} {E : Value → Shared → Prop} {s : Shared}
end
section
variable {X : Cx}
/-! ### d.items() -/
def vwD (p a : Addr) : Heap → Prop := fun h => h.IsItemsView p a
end
end L2

end

section
set_option Elab.async false
set_option linter.all false
set_option maxRecDepth 100000
set_option maxHeartbeats 4000000
namespace L2
open PySem PySem.Spec PyProof.Rows HT
section
variable {prog : Program} {w : World} {A : Around} {E : Value → Shared → Prop} {s : Shared}
def tupI (k v : Int) (t u : Tok) : Obj := { cls := .type "tuple", data := .seq #[.int k t, .int v u] }
end
end L2

end

section
set_option Elab.async false
set_option linter.all false
set_option maxRecDepth 100000
set_option autoImplicit false
set_option maxHeartbeats 4000000
namespace L2
open PySem PySem.Spec PyProof.Rows HT Cb
section
variable {prog : Program} {w : World} {A : Around} {E : Value → Shared → Prop} {s : Shared}
end
/-! ### sorted(d.items()), two entries at most -/
def srt2 : List (Int × Int) → List (Int × Int)
  | [x, y] => if y.1 < x.1 then [y, x] else [x, y]
  | l => l
def knV (kn : List (Int × Int)) : List (Key × V) := kn.map fun q => (Sum.inl q.1, V.int q.2)
section
variable {X : Cx}
end
end L2

end

section
set_option Elab.async false
set_option linter.all false
set_option autoImplicit false
set_option maxRecDepth 100000
set_option maxHeartbeats 4000000
namespace L2
open PySem PySem.Spec PyProof.Rows HT Cb
/-! ### min of a list of tuples of ints -/
/-- tuples of ints stand where the list's things are -/
def TupsI (h : Heap) (items : Array Value) (nss : Nat → List Int) : Prop := ∀ (i : Nat) (v : Value), items[i]? = some v → ∃ (t : Addr) (its : Array Value), v = .ref t ∧ IsTup h t its ∧ IntsAre its.toList (nss i)
section
variable {prog : Program} {w : World} {A : Around} {E : Value → Shared → Prop}
end
section
variable {X : Cx}
end
end L2

end

section
set_option Elab.async false
set_option linter.all false
set_option maxRecDepth 100000
set_option maxHeartbeats 4000000
namespace L2
open PySem PySem.Spec PyProof.Rows
/-! ### zip of four lists -/
abbrev Quad (h : Heap) (T : Addr) (a b c d : Value) : Prop := h.get? T = some { cls := .type "tuple", data := .seq #[a, b, c, d] }
structure Far4 (z TO i1 i2 i3 i4 : Addr) : Prop where
  oz : TO ≠ z
  az : i1 ≠ z
  bz : i2 ≠ z
  cz : i3 ≠ z
  dz : i4 ≠ z
  oa : TO ≠ i1
  ob : TO ≠ i2
  oc : TO ≠ i3
  od : TO ≠ i4
  ab : i1 ≠ i2
  ac : i1 ≠ i3
  ad : i1 ≠ i4
  bc : i2 ≠ i3
  bd : i2 ≠ i4
  cd : i3 ≠ i4
/-- a list is none of the zip's own objects -/
structure FarL4 (z TO i1 i2 i3 i4 l : Addr) : Prop where
  z : l ≠ z
  o : l ≠ TO
  a : l ≠ i1
  b : l ≠ i2
  c : l ≠ i3
  d : l ≠ i4
section
variable {prog : Program} {w : World} {A : Around} {E : Value → Shared → Prop} {s : Shared}
end
abbrev w4A (h : Heap) (l : Addr) : Heap := h.push { cls := .type "list_iterator", data := .fields #[.ref l, .int 0 0] }
abbrev w4B (h : Heap) (l1 l2 l3 l4 : Addr) : Heap := (w4A (w4A (w4A (w4A h l1) l2) l3) l4).push { cls := .type "tuple", data := .seq #[.ref h.objs.size, .ref (w4A h l1).objs.size, .ref (w4A (w4A h l1) l2).objs.size, .ref (w4A (w4A (w4A h l1) l2) l3).objs.size] }
abbrev w4C (h : Heap) (l1 l2 l3 l4 : Addr) : Heap := (w4B h l1 l2 l3 l4).push { cls := .type "tuple", data := .seq #[.none, .none, .none, .none] }
abbrev w4D (h : Heap) (l1 l2 l3 l4 : Addr) : Heap := (w4C h l1 l2 l3 l4).push { cls := .type "zip", data := .fields #[.none, .bool false, .bool false, .ref (w4A (w4A (w4A (w4A h l1) l2) l3) l4).objs.size, .ref (w4B h l1 l2 l3 l4).objs.size] }
def Itz4 (K : PySem.W.Frag) (a b c d : Addr) : It :=
  ⟨fun i H => ∃ xs x ys y us u ts t, SqL K H a xs ∧ SqL K H b ys ∧ SqL K H c us ∧ SqL K H d ts ∧ xs[i]? = some x ∧ ys[i]? = some y ∧ us[i]? = some u ∧ ts[i]? = some t,
   fun i H v H' => ∃ T x y u t, H T = none ∧ v = .ref T ∧ H' = upd H T (.tup [x, y, u, t]) ∧ (∀ xs, SqL K H a xs → xs[i]? = some x) ∧ (∀ ys, SqL K H b ys → ys[i]? = some y) ∧ (∀ us, SqL K H c us → us[i]? = some u) ∧ ∀ ts, SqL K H d ts → ts[i]? = some t,
   fun i H => ∃ xs, SqL K H a xs ∧ xs.length ≤ i⟩
def iZip4 (K : PySem.W.Frag) (ta : TA) : TI := fun σ H R => ta σ H fun vs H1 => ∃ a b c d, vs = [.ref a, .ref b, .ref c, .ref d] ∧ (∃ xs, SqL K H1 a xs) ∧ (∃ ys, SqL K H1 b ys) ∧ (∃ us, SqL K H1 c us) ∧ (∃ ts, SqL K H1 d ts) ∧ R (Itz4 K a b c d) H1
end L2

end

section
set_option Elab.async false
set_option linter.all false
set_option maxRecDepth 100000
set_option maxHeartbeats 4000000
namespace L2
open PySem PySem.Spec PyProof.Rows PySem.SeqAt
/-! ### range(a, b, -1) -/
def Itd (hi : Int) (n : Nat) : It := ⟨fun i _ => i < n, fun i H x H' => H' = H ∧ x = .int (hi - i), fun i _ => n ≤ i⟩
section
variable {X : Cx} {tg : Expr}
def iRng3 (ta : TA) : TI := fun σ H R => ta σ H fun vs H1 => ∃ i j : Int, vs = [.int i, .int j, .int (-1)] ∧ Builtin.Range.small i j (-1) = true ∧ Builtin.divisionGoesByPylong (j - i) (-1) = false ∧ R (Itd i (i - j).toNat) H1
end
/-! ### tuples of numbers and tuples, equal part by part -/
inductive Eqv (K : PySem.W.Frag) (H : Hp) : Nat → V → V → Prop where
  | int (n : Nat) (i : Int) : Eqv K H n (.int i) (.int i)
  | tup {n : Nat} {a b : Addr} {xs ys : List V} (ha : SqT K H a xs) (hb : SqT K H b ys) (hl : xs.length = ys.length) (h : ∀ (i : Nat) (x y : V), xs[i]? = some x → ys[i]? = some y → Eqv K H n x y) : Eqv K H (n + 1) (.ref a) (.ref b)
/-- t != u, equal part by part -/
def rNeTT (K : PySem.W.Frag) : R2 := fun x y H Q => ∃ a b xs ys, x = .ref a ∧ y = .ref b ∧ SqT K H a xs ∧ SqT K H b ys ∧ xs.length = ys.length ∧ (∀ (i : Nat) (x y : V), xs[i]? = some x → ys[i]? = some y → Eqv K H 8 x y) ∧ Q (.bl false) H
end L2

end

section
set_option Elab.async false
set_option linter.all false
set_option maxRecDepth 100000
set_option maxHeartbeats 4000000
namespace L2
open PySem PySem.Spec PyProof.Rows PySem.SeqAt
section
variable {X : Cx} {K : PySem.W.Frag}
/-! ### xs.insert(k, y) -/
def rInsert : V → List V → Hp → VK → Prop := fun x vs H Q => ∃ (l : Addr) (xs : List V) (k : Nat) (y : V), x = .ref l ∧ vs = [.int (k : Int), y] ∧ H l = some (.lst xs) ∧ k ≤ xs.length ∧ xs.length < sizeLine ∧ Q .non (upd H l (.lst (xs.take k ++ y :: xs.drop k)))
/-- xs == [] -/
def rEqL0 (K : PySem.W.Frag) : R2 := fun x y H Q => ∃ a b xs, x = .ref a ∧ y = .ref b ∧ SqL K H a xs ∧ SqL K H b [] ∧ Q (.bl xs.isEmpty) H
end
end L2

end

section
set_option Elab.async false
set_option linter.all false
set_option maxRecDepth 100000
set_option maxHeartbeats 4000000
namespace L2
open PySem PySem.Spec PyProof.Rows PySem.SeqAt
section
variable {X : Cx}
/-! ### dict(d), d == e, d != e -/
/-- two dicts of the same entries, their values numbers -/
def rEqD (neg : Bool) : R2 := fun x y H Q => ∃ (a b : Addr) (kvs : List (Key × V)), x = .ref a ∧ y = .ref b ∧ H a = some (.dK kvs) ∧ H b = some (.dK kvs) ∧ (∀ k x, (k, x) ∈ kvs → valV kvs k = some x ∧ ∃ n : Int, x = .int n) ∧ Q (.bl (!neg)) H
end
end L2

end

section
set_option Elab.async false
set_option linter.all false
set_option maxRecDepth 100000
set_option maxHeartbeats 4000000
namespace L2
open PySem PySem.Spec PyProof.Rows PySem.SeqAt
end L2

end

section
set_option Elab.async false
set_option linter.all false
set_option maxRecDepth 100000
set_option maxHeartbeats 4000000
namespace L2
open PySem PySem.Spec PyProof.Rows PySem.SeqAt
section
variable {X : Cx} {K : PySem.W.Frag}
/-- x != y: both None, or two tuples that are equal part by part -/
def rNeNT (K : PySem.W.Frag) : R2 := fun x y H Q => (x = .non ∧ y = .non ∧ Q (.bl false) H) ∨ rNeTT K x y H Q
/-- two lists of None and numbers, the same -/
def rNeLS (K : PySem.W.Frag) : R2 := fun x y H Q => ∃ a b xs, x = .ref a ∧ y = .ref b ∧ SqL K H a xs ∧ SqL K H b xs ∧ (∀ z ∈ xs, z = .non ∨ ∃ i : Int, z = .int i) ∧ Q (.bl false) H
end
end L2

end

section
set_option Elab.async false
set_option linter.all false
set_option maxRecDepth 100000
set_option maxHeartbeats 4000000
namespace L2
open PySem PySem.Spec PyProof.Rows

/-! ### a comprehension whose own variables are cells -/
structure CompOk2 (N : List Str) (osc : Scope) (Nc : List Str) (src : List (Option Nat)) (scope : Scope) : Prop where
  kind : scope.kind = .function
  nodup : scope.names.Pairwise fun x y => x.1 ≠ y.1
  free : ∀ x ∈ scope.names, x.2 = .free → osc.names.lookup x.1 = some .cell ∨ osc.names.lookup x.1 = some .free
  len : src.length = Nc.length
  src : ∀ (j i : Nat), src[j]? = some (some i) → ∃ x, Nc[j]? = some x ∧ N[i]? = some x ∧ scope.names.lookup x = some .free
def compCheck2 (N : List Str) (osc : Scope) (Nc : List Str) (src : List (Option Nat)) (scope : Scope) : Bool :=
  scope.kind == .function && ndOk scope.names &&
  (scope.names.all fun x => x.2 != .free || osc.names.lookup x.1 == some .cell || osc.names.lookup x.1 == some .free) && srcOk N scope.names src Nc
def cxC2 (X : Cx) (Nc : List Str) (scope : Scope) (cl : List (Str × Addr)) (C : Addr) (fp : List Addr) (s2 : Shared) (H2 : Hp) : Cx :=
  { cxC X Nc scope cl C fp s2 H2 with fn := fun x => scope.names.lookup x == some .cell }

/-- the cells that the comprehension sees -/
structure OwnC (X : Cx) (scope : Scope) (C : Addr) (h1 : Heap) (cl : List (Str × Addr)) : Prop where
  lk : ∀ (x : Str) (c : Addr), cl.lookup x = some c → (X.env.cells.lookup x = some c ∧ ¬ (x, NameKind.cell) ∈ scope.names) ∨ (C < c ∧ h1.IsCell c none)
  inj : ∀ (x y : Str) (c : Addr), C < c → cl.lookup x = some c → cl.lookup y = some c → x = y
  own : ∀ x c, (x, NameKind.cell) ∈ scope.names → cl.lookup x = some c → C < c
  has : ∀ x, (x, NameKind.cell) ∈ scope.names → ∃ c, cl.lookup x = some c
  free : ∀ x, (x, NameKind.free) ∈ scope.names → ∃ c, cl.lookup x = some c ∧ X.env.cells.lookup x = some c

section
variable {X : Cx} {Nc : List Str} {src : List (Option Nat)} {scope : Scope} {elt tg iter : Expr} {ifs : List Expr} {pos : Pos} {wi : TI} {g : TG} {tf : TT} {te : TE}
end
section
variable {X : Cx} {K : PySem.W.Frag} {tg l : Expr} {tl : TE}
end
end L2

end

section
set_option Elab.async false
set_option linter.all false
set_option maxRecDepth 100000
set_option maxHeartbeats 4000000
namespace L2
open PySem PySem.Spec PyProof.Rows HT
/-! ### sorted of a list of numbers; three arguments by name, turned on -/
section
variable {X : Cx} {o e : Expr} {es : List Expr} {to : TE} {t : TA} {T : String} {id : String} {name : Str} {apos cpos : Pos} {r : V → List V → Hp → VK → Prop}
end
def rt3 {α : Type} (us zs : List α) : List α := match us, zs with
  | [], [a, b, c] => [b, c, a]
  | _, _ => []
end L2

end

section
set_option Elab.async false
set_option linter.all false
set_option maxRecDepth 100000
set_option maxHeartbeats 4000000
namespace L2
open PySem PySem.Spec PyProof.Rows HT
/-! ### calls that may raise: what an exception asks may speak of the names as they stand -/
def PassS (CX : CXT) (X : Cx) (E : St → XK) : Prop := ∀ (pins : List (Addr × Obj)) (σ : St) (H : Hp) (s : Shared) (e : Value) (s' : Shared), Inv X pins σ H s → CX X.stack H s (E σ) e s' → X.xe e s'
def tCallS (sp : Sp) (E : St → XK) (t : TA) : TE := fun σ H Q => t σ H fun vs H1 => sp (vs ++ []) H1 Q (E σ)
section
variable {X : Cx} {CX : CXT} {k : Nat} {f C : Addr} {fd : FuncData} {ps ks : List Str} {sp : Sp} {E : St → XK} {x m : Str} {p pos apos : Pos} {e o : Expr} {es : List Expr} {kws : List Keyword} {ta : TE} {t tk : TA} {g : List Value → List Value → List Value} {gV : List V → List V → List V}
end
/-! ### C(..), which may raise -/
structure MakX (P : Program) (w : World) (K : PySem.W.Frag) (mg : Str → Option Value) (base : Heap) (k : Nat) (x : Str) (C : Addr) (ks : List Str) (gV : List V → List V → List V) (sp : Sp) : Prop where
  at_ : mg x = some (.ref C)
  ex : ∃ f fd ps g, Mk K C f ∧ FnOk P w K mg base (CX1 P w) k f fd ps sp ∧ KBinds K fd ps ks g gV
def tMakS (C : Addr) (gV : List V → List V → List V) (sp : Sp) (E : St → XK) (t tk : TA) : TE := fun σ H Q => t σ H fun vs H1 => tk σ H1 fun zs H2 => ∀ x dx, H2 x = none → H2 dx = none → dx ≠ x →
  sp (gV (.ref x :: vs) zs) (upd (upd H2 dx (.own x)) x (.ins C dx [])) (fun v H3 => v = .non ∧ Q (.ref x) H3) (E σ)
section
variable {X : Cx} {k : Nat} {C : Addr} {ks : List Str} {gV : List V → List V → List V} {sp : Sp} {E : St → XK} {x : Str} {p pos : Pos} {e : Expr} {es : List Expr} {kws : List Keyword} {t tk : TA}
end
/-! ### o.m(..), which may raise -/
structure MthX (P : Program) (w : World) (K : PySem.W.Frag) (mg : Str → Option Value) (base : Heap) (k : Nat) (C : Addr) (m : Str) (ks : List Str) (gV : List V → List V → List V) (sp : Sp) : Prop where
  cls : Cls K C
  ex : ∃ f fd ps g, Meth K C m f ∧ FnOk P w K mg base (CX1 P w) k f fd ps sp ∧ KBinds K fd ps ks g gV
def tMthS (P : Program) (w : World) (K : PySem.W.Frag) (mg : Str → Option Value) (base : Heap) (k : Nat) (m : Str) (ks : List Str) (E : St → XK) (ta : TE) (t tk : TA) : TE := fun σ H Q => ta σ H fun x H1 => ∃ a C dx fs gV sp, x = .ref a ∧ H1 a = some (.ins C dx fs) ∧ MthX P w K mg base k C m ks gV sp ∧ fs.lookup m = none ∧
  t σ H1 fun vs H2 => tk σ H2 fun zs H3 => sp (gV (x :: vs) zs) H3 Q (E σ)
section
variable {X : Cx} {k : Nat} {C : Addr} {ks : List Str} {E : St → XK} {x m : Str} {p pos apos : Pos} {e o : Expr} {es : List Expr} {kws : List Keyword} {ta : TE} {t tk : TA}
end
/-! ### within a try -/
abbrev NotOurs (X : Cx) (pins : List (Addr × Obj)) (b : Addr) : Prop := X.s₀.heap.get? b = none ∧ b ≠ X.env.locals ∧ (∀ x c, X.env.cells.lookup x = some c → c ≠ b) ∧ ∀ p ∈ X.pn ++ pins, p.1 ≠ b
abbrev Cx.tried (X : Cx) (pins : List (Addr × Obj)) (E : St → XK) : Cx := { X with pn := X.pn ++ pins, xe := fun e s' => ∃ σ ea T H' C od, e = .ref ea ∧ Inv X pins σ H' s' ∧ XAt s'.heap ea T (.ref C) .none od ∧ H' ea = none ∧ H' T = none ∧ NotOurs X pins ea ∧ NotOurs X pins T ∧ E σ (.ref C) od H' }
section
variable {X : Cx} {pins pins2 : List (Addr × Obj)} {σ : St} {H : Hp} {s : Shared} {E : St → XK}
end
/-- try: .. except C as n: .. -/
def tTry1 (K : PySem.W.Frag) (tb : (St → XK) → TS) (j : Nat) (Cb : Addr) (th : TS) : TS := fun D σ H =>
  tb (fun σ' cls od H2 => PySem.W.exmOne K cls (.ref Cb) = some true ∧ ∀ ea, H2 ea = none → th { nx := fun σ2 H3 => D.nx ((σ2.set j (some .non)).set j none) H3, rt := fun _ _ => False } (σ'.set j (some (.ref ea))) (upd H2 ea (.ext (xIs ea cls od)))) D σ H
/-- try: .. except C: .. -/
def tTry1n (K : PySem.W.Frag) (tb : (St → XK) → TS) (Cb : Addr) (th : TS) : TS := fun D σ H =>
  tb (fun σ' cls _ H2 => PySem.W.exmOne K cls (.ref Cb) = some true ∧ th { nx := D.nx, rt := fun _ _ => False } σ' H2) D σ H
section
variable {X : Cx} {cn n : Str} {j : Nat} {Cb : Addr} {body hbody : List Stmt} {b₀ : Stmt} {tb : (St → XK) → TS} {th : TS} {p4 p8 p9 : Pos}
end
end L2

end

section
set_option Elab.async false
set_option linter.all false
set_option maxRecDepth 100000
set_option maxHeartbeats 4000000
namespace L2
open PySem PySem.Spec PyProof.Rows HT
/-! ### f"..", of any parts: some text -/
abbrev TJ := St → Hp → (Hp → Prop) → Prop
def PJ (X : Cx) (es : List Expr) (t : TJ) : Prop := ∀ (out : Str) (pins : List (Addr × Obj)) (s : Shared) (σ : St) (H : Hp) (R : Hp → Prop), out.length + 2000 * es.length ≤ 100000 → Inv X pins σ H s → t σ H R →
  wpAny (model X.prog X.w) X.A (joinParts out (evalEach es X.env)) (fun u s' => ∃ (z : Str) (tk : Tok) (H' : Hp), u = .str z tk ∧ Inv X pins σ H' s' ∧ R H') X.xe s
def jNil : TJ := fun _ H R => R H
def jStr (ta : TE) (t : TJ) : TJ := fun σ H R => ta σ H fun x H1 => ∃ a : Str, x = .str a ∧ a.length ≤ 1000 ∧ t σ H1 R
def jInt (ta : TE) (t : TJ) : TJ := fun σ H R => ta σ H fun x H1 => ∃ i : Int, x = .int i ∧ i.natAbs < 2 ^ 1000 ∧ t σ H1 R
def tFsN (t : TJ) : TE := fun σ H Q => t σ H fun H1 => ∀ z : Str, Q (.str z) H1
section
variable {X : Cx} {e v : Expr} {es : List Expr} {pos p2 : Pos} {ta : TE} {t : TJ}
end
/-- two lists of truths, the same -/
def rNeLB (K : PySem.W.Frag) : R2 := fun x y H Q => ∃ a b, ∃ bs : List Bool, x = .ref a ∧ y = .ref b ∧ SqL K H a (bs.map V.bl) ∧ SqL K H b (bs.map V.bl) ∧ Q (.bl false) H
end L2

end

section
set_option Elab.async false
set_option linter.all false
set_option maxRecDepth 100000
set_option maxHeartbeats 4000000
namespace L2
open PySem PySem.Spec PyProof.Rows HT
/-! ### an own class under ValueError with an __init__ of its own -/
section
variable {prog : Program} {w : World} {A : Around} {E : Value → Shared → Prop} {h : Heap} {g : Array GenState} {d : Drawn} {t : Nat} {os : OsState}
variable {nm q : Str} {C N : Addr} {bs bm : List Value} {hdct : Bool} {sn : List Str} {sub : List Value} {ab : Bool} {col : Option Bool} {dd : Option Addr} {k0 k1 k2 k3 k5 : Option Value} {mN : Str → Option Value} {rest : List Value} {fI : Addr} {oI : Obj}
end
section
variable {M : Model} {A : Around} {E : Value → Shared → Prop} {s : Shared} {env : Env}
variable {nm q : Str} {C N : Addr} {bs bm : List Value} {hdct : Bool} {sn : List Str} {sub : List Value} {ab : Bool} {col : Option Bool} {dd : Option Addr} {k0 k1 k2 k3 k5 : Option Value}
end
section
variable {prog : Program} {w : World} {A : Around} {E : Value → Shared → Prop} {s : Shared} {env : Env}
variable {nm q : Str} {C N : Addr} {bs bm : List Value} {hdct : Bool} {sn : List Str} {sub : List Value} {ab : Bool} {col : Option Bool} {dd : Option Addr} {k0 k1 k2 k3 k5 : Option Value} {mN : Str → Option Value} {fI : Addr} {oI : Obj}
end
end L2

end

section
set_option Elab.async false
set_option linter.all false
set_option maxRecDepth 100000
set_option maxHeartbeats 4000000
namespace L2
open PySem PySem.Spec PyProof.Rows HT
/-! ### x.split(y) -/
theorem vals_strT : ∀ l : List (Str × Tok), Vals ((l.map (·.1)).map V.str) (strValues l)
  | [] => .nil
  | p :: l => .cons ⟨_, rfl⟩ (vals_strT l)
def rSplit : V → List V → Hp → VK → Prop := fun x vs H Q => ∃ a b : Str, x = .str a ∧ vs = [.str b] ∧ (b.length == 0) = false ∧ a.length + 2 ≤ sizeLine ∧ ∀ D, H D = none → Q (.ref D) (upd H D (.lst ((Txt.split a b).map V.str)))
open PySem.Builtin PySem.Builtin.Str in
theorem mt_split {X : Cx} : MtR X "str.split" rSplit := by
  rintro pins s σ H x vs v us Q I rx rv ⟨a, b, rfl, rfl, hy, hz, q⟩
  obtain ⟨t, rfl⟩ := (show ∃ t, v = Value.str a t from rx)
  obtain ⟨u1, rfl, ru⟩ := vals1 rv
  obtain ⟨u, rfl⟩ := (show ∃ t, u1 = Value.str b t from ru)
  have hn : (partsBetween a (occurrences a b 0 a.length (a.length + 1)) b.length).length ≤ sizeLine := by
    have e1 := StrLaws.occ_length_le a b 0 a.length (a.length + 1)
    rw [length_partsBetween]; omega
  have fin : ∀ (l : List (Str × Tok)) (k : Nat), l.map (·.1) = Txt.split a b → l.length ≤ sizeLine → EP X pins σ Q (.ref s.heap.objs.size) { s with heap := s.heap.push { cls := .type "list", data := .seq (strValues l).toArray }, toks := k } := by
    intro l k e hl
    refine ⟨.ref s.heap.objs.size, _, I.laid (t' := k) (o := .lst ((Txt.split a b).map V.str)) (fun b ob q => Heap.get?_push_of_some _ q) (Nat.le_refl _) ?_, rfl, q _ (I.hok.fresh (Nat.le_refl _))⟩
    refine ⟨by rw [← e, List.length_map, List.length_map]; exact hl, strValues l, 0, by rw [← e]; exact vals_strT l, Heap.get?_push_size _ rfl⟩
  cases h1 : (decide (a.length < b.length) || decide (PySem.Builtin.Str.strKind a < PySem.Builtin.Str.strKind b))
  · cases hf : (occurrences a b 0 a.length (a.length + 1)).isEmpty
    · refine call_meets F.slot_str_split (typeIs_str _ _ _) F.entry_str_split (F.args_str_split_2 _ _) (meets_str_split_sep a b t u h1 hy hf (by omega) hn) ?_
      show wants _ _ _ { s with toks := _, heap := s.heap.push { cls := .type "list", data := .seq (strsFrom s.toks (partsBetween a (occurrences a b 0 a.length (a.length + 1)) b.length)).toArray } }
      rw [strsFrom_eq]
      refine fin (numbered s.toks _) _ ((numbered_texts _ _).trans ((if_neg (ne_true_of_eq_false h1)).trans (if_neg (ne_true_of_eq_false hf))).symm) ?_
      have := congrArg List.length (numbered_texts s.toks (partsBetween a (occurrences a b 0 a.length (a.length + 1)) b.length))
      rw [List.length_map] at this
      rw [this]; exact hn
    · exact call_meets F.slot_str_split (typeIs_str _ _ _) F.entry_str_split (F.args_str_split_2 _ _) (meets_str_split_not_found a b t u h1 hy hf)
        (fin [(a, t)] s.toks ((if_neg (ne_true_of_eq_false h1)).trans (if_pos hf)).symm (show 1 ≤ sizeLine by decide))
  · exact call_meets F.slot_str_split (typeIs_str _ _ _) F.entry_str_split (F.args_str_split_2 _ _) (meets_str_split_cannot_occur a b t u h1)
      (fin [(a, t)] s.toks (if_pos h1).symm (show 1 ≤ sizeLine by decide))
/-! ### try: a body that raises nothing -/
theorem ps_tryN {X : Cx} {body : List Stmt} {h0 : ExceptHandler} {hs : List ExceptHandler} {p : Pos} {t : TS} (hb : PSs X.nox body t) : PS X (.Try body (h0 :: hs) [] [] p) t := by
  intro pins s σ H D I h
  have hb' := hb pins s σ H D (I.wish _) h
  refine wpAny_Try_except (wpAny_mono (E := fun _ _ => False) hb' (fun fl s' q => ?_) fun _ _ z => False.elim z)
  have q : SP X pins D fl s' := q.unwish
  cases fl with
  | next => exact wpAny_execs_nil q
  | brk => exact q
  | cont => exact q
  | ret u => exact q
end L2

end

section
set_option Elab.async false
set_option linter.all false
set_option maxRecDepth 100000
set_option maxHeartbeats 4000000
namespace L2
open PySem PySem.Spec PyProof.Rows HT PySem.W PySem.Calls PySem.NumText
/-! ### int(text, 16) -/
theorem tc_int2 (a b : Value) : checkTypeCall "int" ⟨[a, b], []⟩ = pure () := by kernel_rfl
theorem nc_int2 (a b : Value) : checkBuiltinCall "int.__new__" ⟨[.type "int", a, b], []⟩ = pure () := by kernel_rfl
theorem ao_int3 (a b c : Value) : argsOk "object.__init__" ⟨[a, b, c], []⟩ := by unfold argsOk; kernel_rfl
theorem wp_text16 {M : Model} {A : Around} {E : Value → Shared → Prop} {s : Shared} {Q : Value → Shared → Prop} {v : Value} {text : List Nat} {n : Int}
    (hs : (text.takeWhile (· != 0)).length ≤ 640) (hr : (int_private% "readNumeral") 0 16 (text.takeWhile (· != 0)) = (int_private% "Numeral.value") n)
    (ha : ((text.takeWhile (· != 0)).length == text.length) = true) (h : Q (.int n s.toks) { s with toks := s.toks + 1 }) :
    wpAny M A ((int_private% "intFromText") v text 16) Q E s := by
  obtain ⟨hp, g, d, tk, os⟩ := s
  repeat (any_goals (first
    | assumption
    | (with_reducible refine wpAny_ite_true (decide_eq_true hs) ?_)
    | (with_reducible refine wpAny_ite_true (decide_eq_true ha) ?_)
    | wp_step))
  all_goals (try rw [hr])
  all_goals (try dsimp only)
  repeat (any_goals (first
    | assumption
    | (with_reducible refine wpAny_ite_true (decide_eq_true hs) ?_)
    | (with_reducible refine wpAny_ite_true (decide_eq_true ha) ?_)
    | wp_step))
theorem gives_text16 {x : PySem.Str} {u t : Tok} {n : Int} (hs : (numSeenOf x).length ≤ 640) (hr : (int_private% "readNumeral") 0 16 (numSeenOf x) = (int_private% "Numeral.value") n)
    (ha : ((numSeenOf x).length == (numTextOf x).length) = true) : Gives (Builtin.«int.__new__» ⟨[.type "int", .str x u, .int 16 t], []⟩) (.int n) :=
  .of_wp fun M A E s Q h => by
    obtain ⟨hp, g, d, tk, os⟩ := s
    have f1 := F.conv_sub_int
    have f2 := F.madeHere_int
    have f6 : typeOf (.str x u) = pure (.type "str") := rfl
    have hk := KIN.Hid.mk (And.intro hs (And.intro hr ha))
    clear hs hr ha
    repeat (any_goals (first
      | assumption
      | ((with_reducible show wpAny _ _ ((int_private% "intFromText") _ _ _) _ _ _); refine wp_text16 hk.out.1 hk.out.2.1 hk.out.2.2 ?_)
      | wp_step))
    all_goals first | exact ⟨_, rfl, h⟩ | trace_state
theorem call_int16 {prog : Program} {w : World} {A : Around} {E : Value → Shared → Prop} {s : Shared} {Q : Value → Shared → Prop} {x : PySem.Str} {u t : Tok} {n : Int} (hs : (numSeenOf x).length ≤ 640) (hr : (int_private% "readNumeral") 0 16 (numSeenOf x) = (int_private% "Numeral.value") n)
    (ha : ((numSeenOf x).length == (numTextOf x).length) = true) (h : Q (.int n s.toks) { s with toks := s.toks + 1 }) : wpAny (model prog w) A (call (.type "int") [.str x u, .int 16 t]) Q E s :=
  callType_new F.called_int F.newNe_int (tc_int2 _ _) (nc_int2 _ _) (fun obj => ao_int3 obj _ _) F.entry_int_new (gives_text16 hs hr ha).meets (show (Made.int n).post _ s from ⟨rfl, h⟩)
def N16 (x : PySem.Str) (n : Int) : Prop := (numSeenOf x).length ≤ 640 ∧ (int_private% "readNumeral") 0 16 (numSeenOf x) = (int_private% "Numeral.value") n ∧ ((numSeenOf x).length == (numTextOf x).length) = true
theorem call_sixteen {X : Cx} : CallR X (.type "int") (fun xs H Q => ∃ (x : PySem.Str) (n : Int), xs = [.str x, .int 16] ∧ N16 x n ∧ Q (.int n) H) := by
  intro pins s σ H xs us Q I r h
  obtain ⟨x, n, rfl, ⟨h1, h2, h3⟩, q⟩ := h
  obtain ⟨v1, v2, rfl, r1, r2⟩ := vals2 r
  obtain ⟨t1, rfl⟩ := (show ∃ t, v1 = Value.str x t from r1)
  obtain ⟨t2, rfl⟩ := (show ∃ t, v2 = Value.int 16 t from r2)
  exact call_int16 h1 h2 h3 ⟨.int n, H, I.tok _, ⟨_, rfl⟩, q⟩
def SIX : PySem.Str := "0123456789abcdef"
def six1 (k : Nat) : Nat := (SIX.cps.toList[k]?).getD 0
def six2 (n : Nat) : PySem.Str := (⟨#[six1 (n / 16)]⟩ : PySem.Str) ++ (⟨#[six1 (n % 16)]⟩ : PySem.Str)
def AllTo (P : Nat → Prop) : Nat → Prop
  | 0 => True
  | k + 1 => AllTo P k ∧ P k
theorem AllTo.all {P : Nat → Prop} : ∀ {k : Nat}, AllTo P k → ∀ n, n < k → P n
  | k + 1, h, n, hn => by
    by_cases e : n = k
    · subst e; exact h.2
    · exact AllTo.all h.1 n (by omega)
theorem n16_two : ∀ n, n < 256 → N16 (six2 n) (n : Int) := by
  have h : AllTo (fun n => N16 (six2 n) (n : Int)) 256 := by
    repeat (first | exact True.intro | refine ⟨?_, by decide +kernel, by kernel_rfl, by kernel_rfl⟩)
  exact h.all
end L2

end

section
set_option Elab.async false
set_option linter.all false
set_option maxRecDepth 100000
set_option maxHeartbeats 4000000
namespace L2
open PySem PySem.Spec PyProof.Rows HT
/-! ### the signs of a text, in turn -/
def Its (x : PySem.Str) : It := ⟨fun i _ => i < x.cps.size, fun i H v H' => H' = H ∧ ∃ c, x.cps[i]? = some c ∧ v = .str ⟨#[c]⟩, fun i _ => x.cps.size ≤ i⟩
theorem turn_str {P : Program} {w : World} {K : PySem.W.Frag} {tg : Expr} (it : Addr) (x : PySem.Str) (t : Tok) : Turn P w K tg (Its x) [it] it (fun i h => h.IsStrIter it "str_ascii_iterator" x t i) where
  mem := by simp
  obj := fun i h st b hb => by
    have e : b = it := by simpa using hb
    subst e
    obtain ⟨o, e, c, d⟩ := st
    exact ⟨o, e, fun v z => by rw [d] at z; cases z⟩
  keep := fun i h h' st k => by
    obtain ⟨o, e, r⟩ := st
    exact ⟨o, k it (by simp) o e, r⟩
  item := by
    intro X hP hw hK hc i pins s σ H E I hf st hg
    subst hP hw hK
    obtain ⟨f0, f1, f2, f3, f4, f5⟩ := hf it (by simp)
    obtain ⟨c0, hx⟩ : ∃ c, x.cps[i]? = some c := ⟨_, Array.getElem?_eq_getElem (show i < x.cps.size from hg)⟩
    refine wpAny_pyNext_ascii_item st hx fun h' st' sb => ?_
    have I1 : Inv X pins σ H { s with heap := h', toks := s.toks + 1 } := I.turned (fun b o hb e => (sb.2 b hb).trans e) f0 f1 f3 f4 f5
    obtain ⟨o, e, c, d⟩ := id st'
    exact ⟨_, rfl, go_of (s := { s with heap := h', toks := s.toks + 1 }) e c d (by decide) ⟨.str ⟨#[c0]⟩, H, I1, ⟨_, rfl⟩, ⟨rfl, _, hx, rfl⟩, st', fun b hb => (hf b hb).1⟩⟩
  done := by
    intro X hP hw hK hc i pins s σ H E I hf st hg
    subst hP hw hK
    obtain ⟨f0, f1, f2, f3, f4, f5⟩ := hf it (by simp)
    exact wpAny_pyNext_ascii_end (I.ok.hd hc) st (by simp; exact hg) fun h' eb => ⟨rfl, I.turned (t' := s.toks) (fun b o hb e => eb b o hb e) f0 f1 f3 f4 f5⟩
  self := fun _ _ _ _ _ st h => wpAny_pyIter_striter_ascii st h
def iStr (tl : TE) : TI := fun σ H R => tl σ H fun v H1 => ∃ x : PySem.Str, v = .str x ∧ x.cps.all (· < 128) = true ∧ R (Its x) H1
theorem pi_str {X : Cx} {tg l : Expr} {tl : TE} (hl : PE X l tl) : PI X tg l (iStr tl) := by
  intro pins s σ H R I h
  refine thn (hl pins s σ H _ I h) fun v s1 ⟨y, H1, I1, r1, q1⟩ => ?_
  obtain ⟨x, e, ha, q⟩ := q1
  subst e
  obtain ⟨t, rfl⟩ := (show ∃ t, v = Value.str x t from r1)
  refine wpAny_pyIter_ascii ha ?_
  refine ⟨s1.heap.objs.size, [s1.heap.objs.size], _, _, H1, rfl, I1.kept (t' := s1.toks) fun b o e => Heap.get?_push_of_some _ e, turn_str _ x t, ⟨_, Heap.get?_push_size _ rfl, rfl, rfl⟩, fun b hb => ?_, q⟩
  have e : b = s1.heap.objs.size := by simpa using hb
  subst e
  exact I1.fpOk (Nat.le_refl _) (I1.hok.fresh (Nat.le_refl _))
theorem comp_str {g : TG} {tf : TT} {te : TE} {Q : List V → Hp → Prop} {σ : St} {H : Hp} {x : PySem.Str} (Pv : Nat → List V → St → Hp → Prop) (hn : x.cps.size ≤ sizeLine) (h0 : Pv 0 [] σ H) (hz : ∀ i ys σ H, Pv i ys σ H → ys.length ≤ i)
    (hs : ∀ i c ys σ H, x.cps[i]? = some c → Pv i ys σ H → g (.str ⟨#[c]⟩) σ H fun σ2 H2 => tf σ2 H2 fun b H3 => if b = true then te σ2 H3 fun y H4 => Pv (i + 1) (ys ++ [y]) σ2 H4 else Pv (i + 1) ys σ2 H3)
    (hd : ∀ ys σ H, Pv x.cps.size ys σ H → Q ys H) : CompW (Its x) g tf te Q σ H := by
  refine ⟨fun i m ys σ H => m = x.cps.size - i ∧ i ≤ x.cps.size ∧ Pv i ys σ H, ⟨x.cps.size, by simp, Nat.zero_le _, h0⟩, ?_⟩
  rintro i m ys σ H ⟨rfl, hi, p⟩
  have hl := hz i ys σ H p
  by_cases hlt : i < x.cps.size
  · refine .inr ⟨hlt, by omega, Pv (i + 1), fun ys' σ' H' p' => ⟨x.cps.size - (i + 1), by omega, rfl, hlt, p'⟩, fun v H' y => ?_⟩
    obtain ⟨e, c, hc, rfl⟩ := y
    subst e
    exact hs i c ys σ _ hc p
  · have e : i = x.cps.size := by omega
    exact .inl ⟨by show x.cps.size ≤ i; omega, by omega, by subst e; exact hd ys σ H p⟩
end L2

end

section
set_option Elab.async false
set_option linter.all false
set_option maxRecDepth 100000
set_option maxHeartbeats 4000000
namespace L2
open PySem PySem.Spec PyProof.Rows HT
/-! ### a text in a text -/
def rInS : R2 := fun x y H Q => ∃ a b : PySem.Str, x = .str a ∧ y = .str b ∧ Q (.bl (!(Builtin.Str.occurrences b a 0 b.length 1).isEmpty)) H
theorem op_inS {X : Cx} : OpR X (compareOp .In) rInS := by
  rintro pins s σ H x y v u Q I rx ry ⟨a, b, rfl, rfl, q⟩
  obtain ⟨t, rfl⟩ := (show ∃ t, v = Value.str a t from rx)
  obtain ⟨t', rfl⟩ := (show ∃ t', u = Value.str b t' from ry)
  exact PyProof.Rows.in_str ⟨.bl _, H, I, rfl, q⟩
theorem six_in : ∀ k : Fin 16, (!(Builtin.Str.occurrences SIX ⟨#[six1 k.val]⟩ 0 SIX.length 1).isEmpty) = true := by decide +kernel
/-! ### f(..) where f stands in a variable -/
def tCallV (P : Program) (w : World) (K : PySem.W.Frag) (mg : Str → Option Value) (base : Heap) (k : Nat) (tv : TE) (t : TA) : TE := fun σ H Q => tv σ H fun v H1 => ∃ f fd ps sp, v = .ref f ∧ PySem.W.keepIn K (.ref f) = true ∧ FnOk P w K mg base CX0 k f fd ps sp ∧ Binds K fd ps [] ∧
  t σ H1 fun vs H2 => sp (vs ++ []) H2 Q E0
section
variable {X : Cx} {x : Str} {p pos : Pos} {e : Expr} {es : List Expr} {tv : TE} {t : TA}
theorem pe_calV {P : Program} {w : World} {K : PySem.W.Frag} {mg : Str → Option Value} {base : Heap} (k : Nat) (hX : X.prog = P ∧ X.w = w ∧ X.K = K ∧ X.mg = mg ∧ X.base = base) (hr : Room k X.A) (hv : PE X (.Name x p) tv) (ha : PA X (e :: es) t)
    (he : starEach (e :: es) X.env = (false, eval e X.env) :: starEach es X.env := by rfl) (hpl : (backTo pos (starEach es X.env)).any (·.1) = false := by rfl) : PE X (.Call (.Name x p) (e :: es) [] pos) (tCallV P w K mg base k tv t) := by
  obtain ⟨rfl, rfl, rfl, rfl, rfl⟩ := hX
  intro pins s σ H Q I h
  refine wpAny_Call_Name_kw (thn (hv pins s σ H _ I h) fun u s1 ⟨v, H1, I1, rv, f, fd, ps, sp, ev, hk, F, hb, q⟩ => ?_)
  subst ev
  obtain rfl : u = Value.ref f := rv
  refine PySem.W.callWith_K (h₀ := X.base) I.ok.mod.kin hk (thn (ha pos pins s1 σ H1 _ I1 q) fun us s2 ⟨vs, H2, I2, r, q2⟩ => ⟨I2.kIn, ?_⟩) he hpl
  exact run_fn F hr hb .nil pass0 I2 r q2
end
end L2

end

section
set_option Elab.async false
set_option linter.all false
set_option maxRecDepth 100000
set_option maxHeartbeats 4000000
namespace L2
open PySem PySem.Spec PyProof.Rows HT PySem.W PySem.Calls
/-! ### a, *b = a list -/
def gStar (K : PySem.W.Frag) (t : TGs) : TG := fun v σ H Q => ∃ a x xs, v = .ref a ∧ SqL K H a (x :: xs) ∧ xs.length ≤ 16000 ∧ ∀ D, H D = none → t [x, .ref D] σ (upd H D (.lst xs)) Q
theorem pg_star {X : Cx} {es : List Expr} {k : Nat} {pos : Pos} {t : TGs} (hc : X.calm = true) (h : PGs X es t) (hn : (assignEach es X.env).length = 2 := by rfl) (hst : (assignEach es X.env).findIdx? (·.1) = some 1 := by rfl) : PG X (.Tuple es k pos) (gStar X.K t) := by
  intro pins s σ H v u Q I r hw
  obtain ⟨a, x, xs, e1, hq, hl, hw⟩ := hw
  subst e1
  cases r
  obtain ⟨its, rv, p, hz⟩ := I.list hq
  obtain ⟨u0, us, rfl, r0, rs⟩ : ∃ u0 us, its = u0 :: us ∧ RelV x u0 ∧ Vals xs us := by
    cases rv with
    | cons r0 rs => exact ⟨_, _, rfl, r0, rs⟩
  have li : s.heap.IsList a (u0 :: us).toArray := p.isList
  have ll := rs.length
  rw [assign_Tuple]
  refine wpAny_bind (wpAny_standAt ?_)
  unfold unpack
  rw [hn, hst]
  refine wpAny_bind (wpAny_holding ?_)
  have hlt : a ≠ s.heap.objs.size := by obtain ⟨o, ho, _⟩ := li; exact Nat.ne_of_lt (Heap.lt_size ho)
  unfold unpackItems
  refine wpAny_bind ?_
  unfold notIterableAtAll
  refine wpAny_bind (wpAny_specialOf li.typeIs slot_list_iter.lookup ?_)
  refine wpAny_pure ?_
  simp only [Bool.false_eq_true, if_false]
  refine wpAny_bind (wpAny_holding (wpAny_pyIter_list li ?_))
  have sz : (u0 :: us).toArray.size = us.length + 1 := by simp
  refine wpAny_bind (wpAny_holding (kun_draw hlt 1 0 _ _ ⟨_, Heap.get?_push_size _ rfl, rfl, rfl⟩ (li.push _) (by rw [sz]; omega) fun h₁ hit₁ hs₁ => ?_))
  have hl₁ : h₁.IsList a (u0 :: us).toArray := (li.push _).extBut hs₁.extBut hlt
  obtain ⟨oi, hoi, _⟩ := id hit₁
  obtain ⟨ol, hol, _⟩ := id hl₁
  rw [List.drop_zero]
  have tk1 : (u0 :: us).toArray.toList.take 1 = [u0] := by simp
  rw [tk1]
  refine wpAny_bind (wpAny_holding (kun_collect (s := { s with heap := h₁ }) (T := "list_iterator") (.inr (.inr (.inl rfl))) (Walks.list (A := X.A.in1) (I.ok.hd hc) s.heap.objs.size a hlt (u0 :: us).toArray) (fun j u st => st.1.typeIs) (k := 1) (by rw [sz]; omega) ⟨hit₁, hl₁⟩ (Heap.lt_size hoi) (Heap.lt_size hol) (fun h₂ tk hk => ?_) (by rw [sz, sizeLine_eq]; omega)))
  have dr1 : (u0 :: us).toArray.toList.drop 1 = us := by simp
  rw [dr1]
  have he : Heap.ExtBut s.heap.objs.size s.heap h₂ := fun b o hb e => hk b o hb (hs₁.extBut b o hb (Heap.get?_push_of_some _ e))
  have I1 : Inv X pins σ H { s with heap := h₂, toks := tk } := I.kept (t' := tk) fun b o e => he b o (Nat.ne_of_lt (Heap.lt_size e)) e
  rw [if_neg (by omega)]
  have tk2 : us.take (us.length - (2 - 1 - 1)) = us := List.take_of_length_le (by omega)
  have dr2 : us.drop (us.length - (2 - 1 - 1)) = [] := List.drop_eq_nil_of_le (by omega)
  rw [tk2, dr2]
  have e2 : us.length ≤ sizeLine := by rw [sizeLine_eq]; omega
  refine wpAny_bind (wpAny_newList (wpAny_pure ?_) e2)
  refine h pins _ σ _ [x, .ref h₂.objs.size] _ Q (I1.laid (t' := tk) (o := .lst xs) (fun b ob q => Heap.get?_push_of_some _ q) (Nat.le_refl _) ⟨by omega, us, 0, rs, Heap.get?_push_size _ rfl⟩) (.cons r0 (.cons rfl .nil)) (hw _ (I1.hok.fresh (Nat.le_refl _)))
end L2

end

section
set_option Elab.async false
set_option linter.all false
set_option maxRecDepth 100000
set_option maxHeartbeats 4000000
namespace L2
open PySem PySem.Spec PyProof.Rows HT
/-! ### D.get(k), D a dict of the module -/
structure DicK (P : Program) (w : World) (K : PySem.W.Frag) (a : Addr) (kvs : List (Key × V)) : Prop where
  ns : (a == sysModules) = false
  ex : ∃ vs, KV kvs vs ∧ ∀ h : Heap, K.In h → h.DictOf (mixKind P w) a vs
def tKGet (kvs : List (Key × V)) (ty : TE) : TE := fun σ H Q => ty σ H fun y H1 => ∃ k, y = kV k ∧ Q ((valV kvs k).getD .non) H1
section
variable {X : Cx} {x : Str} {a : Addr} {e : Expr} {p apos cpos : Pos} {ty : TE} {kvs : List (Key × V)}
theorem pe_kget (hg : Gl X x) (hm : X.mg x = some (.ref a)) (D : DicK X.prog X.w X.K a kvs) (he : PE X e ty) (m : M1 X (.Name x p) "get" apos e cpos) (hdb : (x == ("__debug__" : Str)) = false := by decide) : PE X (.Call (.Attribute (.Name x p) "get" apos) [e] [] cpos) (tKGet kvs ty) := by
  obtain ⟨hd, vs, rel, dof⟩ := D
  intro pins s σ H Q I h
  refine wpAny_Call_method m.base m.few m.line PySem.F.plainAttrs_dict PySem.F.slot_dict_get PySem.F.type_dict_get (ld_glob I hg hm ?_ hdb)
  have dd := dof _ I.kIn
  refine ⟨dd.typeIs, fun b q => ?_, ?_⟩
  · cases q
    obtain ⟨ob, _, _, h1, h2, _⟩ := dd
    exact ⟨ob, h1, h2.2.1⟩
  rw [m.trees]
  refine Calls.callWith_builtin rfl (Calls.evalArgs_plain (Calls.spliced_cons (thn (he pins _ σ H _ I h) fun iv s2 ⟨y, H2, I2, ry, k, ey, q2⟩ => Calls.spliced_nil ?_)))
  subst ey
  have dd2 := dof _ I2.kIn
  refine call_meetsIn PySem.F.slot_dict_get dd2.typeIs PySem.F.entry_dict_get (PySem.F.args_dict_get_2 _ _) (meets_dict_get (mixKind X.prog X.w) a (kV_is ry) hd) ⟨_, dd2.mapOf, ?_⟩
  have rr : RelV ((valV kvs k).getD .non) ((valueAt vs k).getD .none) := (rel.val k).getD rfl
  exact ⟨_, H2, I2.tok _, rr, q2⟩
end
end L2

end

section
set_option Elab.async false
set_option linter.all false
set_option maxRecDepth 100000
set_option maxHeartbeats 4000000
namespace L2
open PySem PySem.Spec PyProof.Rows HT
/-! ### a text joined of parts is split into them -/
theorem app_sep {c : Nat} : ∀ {a b r s : List Nat}, c ∉ a → c ∉ b → a ++ c :: r = b ++ c :: s → a = b ∧ r = s
  | [], [], r, s, _, _, e => ⟨rfl, (List.cons.inj e).2⟩
  | [], y :: b, r, s, _, hb, e => absurd (show c ∈ y :: b by rw [← (List.cons.inj e).1]; exact List.mem_cons_self ..) hb
  | x :: a, [], r, s, ha, _, e => absurd (show c ∈ x :: a by rw [(List.cons.inj e).1]; exact List.mem_cons_self ..) ha
  | x :: a, y :: b, r, s, ha, hb, e => by
    obtain ⟨e1, e2⟩ := List.cons.inj e
    obtain ⟨q1, q2⟩ := app_sep (fun z => ha (List.mem_cons_of_mem _ z)) (fun z => hb (List.mem_cons_of_mem _ z)) e2
    exact ⟨by rw [e1, q1], q2⟩
theorem str_app (x y : PySem.Str) : (x ++ y).cps.toList = x.cps.toList ++ y.cps.toList := by
  show (x.cps ++ y.cps).toList = _
  exact Array.toList_append ..
theorem str_inj {x y : PySem.Str} (h : x.cps.toList = y.cps.toList) : x = y := by
  obtain ⟨a⟩ := x
  obtain ⟨b⟩ := y
  exact congrArg PySem.Str.mk (Array.toList_inj.mp h)
theorem join_two (c : Nat) (x y : PySem.Str) (r : List PySem.Str) : (PySem.Str.join ⟨#[c]⟩ (x :: y :: r)).cps.toList = x.cps.toList ++ c :: (PySem.Str.join ⟨#[c]⟩ (y :: r)).cps.toList := by
  show (x ++ ⟨#[c]⟩ ++ PySem.Str.join ⟨#[c]⟩ (y :: r)).cps.toList = _
  rw [str_app, str_app, List.append_assoc]; rfl
theorem join_inj (c : Nat) : ∀ ps qs : List PySem.Str, ps ≠ [] → qs ≠ [] → (∀ p ∈ ps, c ∉ p.cps.toList) → (∀ p ∈ qs, c ∉ p.cps.toList) → (PySem.Str.join ⟨#[c]⟩ ps).cps.toList = (PySem.Str.join ⟨#[c]⟩ qs).cps.toList → ps = qs
  | [], _, h, _, _, _, _ => absurd rfl h
  | _, [], _, h, _, _, _ => absurd rfl h
  | [x], [y], _, _, _, _, e => by rw [str_inj (x := x) (y := y) e]
  | [x], y :: z :: r, _, _, hp, _, e => by
    rw [join_two] at e
    have e : x.cps.toList = _ := e
    exact absurd (show c ∈ x.cps.toList by rw [e]; exact List.mem_append_right _ (List.mem_cons_self ..)) (hp x (List.mem_cons_self ..))
  | x :: z :: r, [y], _, _, _, hq, e => by
    rw [join_two] at e
    have e : _ = y.cps.toList := e
    exact absurd (show c ∈ y.cps.toList by rw [← e]; exact List.mem_append_right _ (List.mem_cons_self ..)) (hq y (List.mem_cons_self ..))
  | x :: z :: r, y :: u :: t, _, _, hp, hq, e => by
    rw [join_two, join_two] at e
    obtain ⟨e1, e2⟩ := app_sep (hp x (List.mem_cons_self ..)) (hq y (List.mem_cons_self ..)) e
    have ih := join_inj c (z :: r) (u :: t) (by simp) (by simp) (fun p h => hp p (List.mem_cons_of_mem _ h)) (fun p h => hq p (List.mem_cons_of_mem _ h)) e2
    rw [str_inj e1, ih]
theorem split_nonempty (x y : PySem.Str) : Txt.split x y ≠ [] := by
  unfold Txt.split
  split
  · simp
  · split
    · simp
    · intro h
      have := congrArg List.length h
      rw [length_partsBetween] at this
      simp at this
theorem split_join (c : Nat) (ps : List PySem.Str) (h0 : ps ≠ []) (hf : ∀ p ∈ ps, c ∉ p.cps.toList) : Txt.split (PySem.Str.join ⟨#[c]⟩ ps) ⟨#[c]⟩ = ps :=
  join_inj c _ _ (split_nonempty _ _) h0 (StrLaws.split_free _ c) hf (by rw [StrLaws.join_split])
theorem txt_join (sep : PySem.Str) (ys : List PySem.Str) : Txt.join sep ys = PySem.Str.join sep ys := eq_of_beq (PyProof.Rows.join_closes (sep := sep) (sep' := sep) (ys := ys) rfl)
theorem pgs_star {X : Cx} {e : Expr} {sp : Pos} {es : List Expr} {t : TG} {u : TGs} (h1 : PG X e t) (h2 : PGs X es u)
    (hs : (assignEach (.Starred e sp :: es) X.env).map (·.2) = assign e X.env :: (assignEach es X.env).map (·.2) := by rfl) : PGs X (.Starred e sp :: es) (gCons t u) := by
  intro pins s σ H vs us Q I r h
  obtain ⟨v, vr, e1, h⟩ := h
  subst e1
  cases r with
  | cons r rr =>
    rw [hs]
    refine assignInOrder_cons (thn (h1 pins s σ H _ _ _ I r h) fun _ s1 ⟨σ1, H1, I1, q1⟩ => ?_)
    exact h2 pins s1 σ1 H1 _ _ Q I1 rr q1
end L2

end

section
set_option Elab.async false
set_option linter.all false
set_option maxRecDepth 100000
set_option maxHeartbeats 4000000
namespace L2
open PySem PySem.Spec PyProof.Rows PySem.SeqAt
section
variable {X : Cx} {K : PySem.W.Frag}
/-- two rows [text, number, list of numbers] compared, text and number the same -/
def rEqM (K : PySem.W.Frag) : R2 := fun x y H Q => ∃ a b ra rb, ∃ (k : Str) (n : Int) (ns ms : List Int), x = .ref a ∧ y = .ref b ∧ SqL K H a [.str k, .int n, .ref ra] ∧ SqL K H b [.str k, .int n, .ref rb] ∧ SqL K H ra (ns.map V.int) ∧ SqL K H rb (ms.map V.int) ∧ Q (.bl (decide (ns = ms))) H
end
end L2

end

section
set_option Elab.async false
set_option linter.all false
set_option maxRecDepth 100000
set_option maxHeartbeats 4000000
namespace L2
open PySem PySem.Spec PyProof.Rows
/-! ### xs[::2] and xs[1::2] -/
def each2 (lo n : Nat) : List Nat := sliceRange ((min lo n : Nat) : Int) (n : Int) 2
def tEach2 (K : PySem.W.Frag) (lo : Nat) (te : TE) : TE := fun σ H Q => te σ H fun x H1 => ∃ a xs, x = .ref a ∧ SqL K H1 a xs ∧ ∀ p, H1 p = none → Q (.ref p) (upd H1 p (.lst ((each2 lo xs.length).filterMap (xs[·]?))))
section
variable {X : Cx}
/-- (a, b, ..) = a list of that length -/
def gTupL (K : PySem.W.Frag) (n : Nat) (t : TGs) : TG := fun v σ H Q => ∃ a xs, v = .ref a ∧ SqL K H a xs ∧ xs.length = n ∧ t xs σ H Q
end
end L2

end

section
set_option Elab.async false
set_option linter.all false
set_option maxRecDepth 100000
set_option maxHeartbeats 4000000
namespace L2
open PySem PySem.Spec PyProof.Rows Builtin
/-! ### two own objects of any two classes compared, neither class under the other -/
section
variable {prog : Program} {w : World} {A : Around} {E : Value → Shared → Prop} {s : Shared} {K : PySem.W.Frag} {x y C D f : Addr} {ox oy : Obj} {od oe : Option Obj}
theorem neOwn2 {Q : Value → Shared → Prop} (hu : A.units + 1 < cLine) (X : K.In s.heap) (I : PySem.W.InstAt s.heap x ox C od) (J : PySem.W.InstAt s.heap y oy D oe) (hnf : PySem.W.notFirst K C (.ref D) = true) (hs : PySem.W.findIn K (.ref C) "__eq__" = some (some (.ref f))) (hf : PySem.W.isFn K (.ref f) = true)
    (hn : PySem.W.findIn K (.ref C) "__ne__" = some (some (.builtin "object.__ne__"))) (hm : PySem.W.subIn K (.ref C) (.type "object") = some true)
    (h : wpAny (model prog w) A.in1 (call (.ref f) [.ref x, .ref y]) (BoolIs fun b s' => Q (.bool (!b)) s') E s) : wpAny (model prog w) A (compareOp .NotEq (.ref x) (.ref y)) Q E s := by
  have one : wpAny (model prog w) A (tryCompare (.ref x) "__ne__" (.ref y)) (fun r s' => ∃ b, r = some (Value.bool b) ∧ Q (.bool b) s') E s := by
    unfold tryCompare
    have run : wpAny (model prog w) A (call (.builtin "object.__ne__") [.ref x, .ref y]) (fun v s' => ∃ b, v = Value.bool b ∧ Q (.bool b) s') E s := by
      refine wpAny_call (codeAny_call_builtin F.cmp_object.ne.plain F.cmpEntry_ne ?_)
      refine PySem.W.check_slot (owner := "object") (n := "__ne__") F.cmpKind_ne F.cmpSplit_ne (I.type.andThen (PySem.W.looks_subIn X hm)) (F.cmpArgs_ne _ _) ?_
      refine neEntry (A := A.in1) hu X I hs hf (wpAny_mono h (fun v s' hv => ?_) fun _ _ z => z)
      cases v with
      | bool b => exact ⟨_, rfl, hv⟩
      | _ => exact hv.elim
    refine wpAny_bind (m := callSpecialIfBound? (.ref x) (Str.ofString "__ne__") [.ref y]) ?_
    simp only [callSpecialIfBound?, bindSpecialIfBound?]
    refine wpAny_holding (wpAny_bind (wpAny_bind (wpAny_bind (I.type.here ((PySem.W.looks_findIn X hn).here ?_)))))
    have fin : wpAny (model prog w) A (call (.builtin "object.__ne__") ([.ref x] ++ [.ref y]) >>= fun v => pure (some v)) (fun r s' => wpAny (model prog w) A (match r with | some .notImplemented | none => pure none | some v => pure (some v)) (fun r s' => ∃ b, r = some (Value.bool b) ∧ Q (.bool b) s') E s') E s :=
      wpAny_bind (wpAny_mono run (fun v s' ⟨b, e, hq⟩ => by subst e; exact wpAny_pure (wpAny_pure ⟨b, rfl, hq⟩)) fun _ _ z => z)
    refine wpAny_bind (wpAny_askSetting (wpAny_ite ?_))
    rw [F.cmp_object.ne.bind]
    split
    · exact wpAny_bind (wpAny_pure (wpAny_pure (by exact fin)))
    · exact wpAny_tryCatch (wpAny_bind (wpAny_pure (wpAny_pure (by exact fin))))
  show wpAny _ _ (richCompare .NotEq (.ref x) (.ref y)) _ _ _
  unfold richCompare
  simp only [oneThing_ref]
  refine wpAny_holding (wpAny_bind (wpAny_cRoomFor (Nat.lt_of_succ_lt hu) ?_))
  refine wpAny_bind (I.type.here (wpAny_bind (J.type.here ?_)))
  split
  · rename_i q
    have e : PySem.W.subIn K (.ref D) (.ref C) = some false := by
      rcases Bool.or_eq_true_iff.mp hnf with e | e
      · rw [beq_iff_eq.mp e] at q; simp at q
      · exact beq_iff_eq.mp e
    refine wpAny_bind ((PySem.W.looks_subIn X e).here ?_)
    simp only [Bool.false_eq_true, if_false]
    refine wpAny_bind (wpAny_mono one (fun r s' z => ?_) fun _ _ z => z)
    obtain ⟨b, rfl, hq⟩ := z
    exact wpAny_pure hq
  · refine wpAny_bind (wpAny_pure ?_)
    simp only [Bool.false_eq_true, if_false]
    refine wpAny_bind (wpAny_mono one (fun r s' z => ?_) fun _ _ z => z)
    obtain ⟨b, rfl, hq⟩ := z
    exact wpAny_pure hq
end
def rCmpO2 (P : Program) (w : World) (K : PySem.W.Frag) (mg : Str → Option Value) (base : Heap) (k : Nat) (neg : Bool) : R2 := fun x y H Q => ∃ a b C D dx fs dy gs gV sp, x = .ref a ∧ y = .ref b ∧ H a = some (.ins C dx fs) ∧ H b = some (.ins D dy gs) ∧ PySem.W.notFirst K C (.ref D) = true ∧ Mth P w K mg base k C "__eq__" [] gV sp ∧ (neg = true → NeOk K C) ∧
  sp (gV [x, y] []) H (fun v H2 => ∃ c, v = .bl c ∧ Q (.bl (neg != c)) H2) E0
section
variable {X : Cx}
theorem op_eqO2 {P : Program} {w : World} {K : PySem.W.Frag} {mg : Str → Option Value} {base : Heap} (k : Nat) (hX : X.prog = P ∧ X.w = w ∧ X.K = K ∧ X.mg = mg ∧ X.base = base) (hr : Room k X.A) : OpR X (compareOp .Eq) (rCmpO2 P w K mg base k false) := by
  obtain ⟨rfl, rfl, rfl, rfl, rfl⟩ := hX
  rintro pins s σ H x y v u Q I rx ry ⟨a, b, C, D, dx, fs, dy, gs, gV, sp, rfl, rfl, ea, eb, hnf, M, _, q⟩
  cases rx; cases ry
  obtain ⟨c, f, fd, ps, g, hm, F, hb⟩ := M
  obtain ⟨mA, O, _⟩ := ins_get I.hok ea
  obtain ⟨od, J, _⟩ := O.look
  obtain ⟨mB, O2, _⟩ := ins_get I.hok eb
  obtain ⟨oe, J2, _⟩ := O2.look
  obtain ⟨m, fr⟩ := I.fr
  refine PySem.W.cmp_K (op := .Eq) hr.units0 fr I.mod.kin J J2.type hnf hm.at_ hm.fn ?_
  refine wpAny_mono (run_fnk (us := [.ref a, .ref b]) (vs := [.ref a, .ref b]) (ws := []) (zs := []) F hr hb pass0 I (.cons rfl (.cons rfl .nil)) .nil q) (fun z s' hz => ?_) fun _ _ e => e
  obtain ⟨v, H2, I2, rv, b', rfl, qb⟩ := hz
  obtain rfl : z = Value.bool b' := rv
  exact ⟨.bl b', H2, I2, rfl, by rw [Bool.false_bne] at qb; exact qb⟩
theorem op_neO2 {P : Program} {w : World} {K : PySem.W.Frag} {mg : Str → Option Value} {base : Heap} (k : Nat) (hX : X.prog = P ∧ X.w = w ∧ X.K = K ∧ X.mg = mg ∧ X.base = base) (hr : Room (k + 1) X.A) : OpR X (compareOp .NotEq) (rCmpO2 P w K mg base k true) := by
  obtain ⟨rfl, rfl, rfl, rfl, rfl⟩ := hX
  rintro pins s σ H x y v u Q I rx ry ⟨a, b, C, D, dx, fs, dy, gs, gV, sp, rfl, rfl, ea, eb, hnf, M, hno, q⟩
  have no := hno rfl
  cases rx; cases ry
  obtain ⟨c, f, fd, ps, g, hm, F, hb⟩ := M
  obtain ⟨mA, O, _⟩ := ins_get I.hok ea
  obtain ⟨od, J, _⟩ := O.look
  obtain ⟨mB, O2, _⟩ := ins_get I.hok eb
  obtain ⟨oe, J2, _⟩ := O2.look
  refine neOwn2 (by have := hr.units; omega) I.kIn J J2 hnf hm.at_ hm.fn no.ne no.ob ?_
  have rv : Vals (gV [V.ref a, V.ref b] []) (g [Value.ref a, Value.ref b] []) := hb.rel (vs := [V.ref a, V.ref b]) (us := [Value.ref a, Value.ref b]) (zs := []) (ws := []) (.cons rfl (.cons rfl .nil)) .nil
  have hl : (g [Value.ref a, Value.ref b] []).length = ps.length := by rw [← rv.length]; exact F.len _ _ _ _ q
  have W : wpAny (model X.prog X.w) X.A.in1 (call (.ref f) [.ref a, .ref b]) (EP X pins σ (fun v H2 => ∃ c, v = .bl c ∧ Q (.bl (true != c)) H2)) X.xe s := by
    refine wpAny_call (codeAny_mono (F.run X.A.in1 X.stack s H ⟨[.ref a, .ref b], []⟩ _ _ _ E0 hr.in1 I.env0.in1 (hb.to s [.ref a, .ref b] [] I.kIn hl) rv q) fun r s' hq => ?_)
    cases r with
    | error e => exact pass0 pins σ H s e s' I hq
    | ok fl =>
      cases fl with
      | ret u => exact I.after hq
      | next => exact False.elim hq
      | brk => exact False.elim hq
      | cont => exact False.elim hq
  refine wpAny_mono W (fun z s' hz => ?_) fun _ _ e => e
  obtain ⟨v, H2, I2, rv, b', rfl, qb⟩ := hz
  obtain rfl : z = Value.bool b' := rv
  exact ⟨.bl (!b'), H2, I2, rfl, by rw [Bool.true_bne] at qb; exact qb⟩
end
end L2

end

section
set_option Elab.async false
set_option linter.all false
set_option maxRecDepth 100000
set_option maxHeartbeats 4000000
namespace L2
open PySem PySem.Spec PyProof.Rows
/-! ### zip of two lists, the second one shorter -/
section
variable {prog : Program} {w : World} {A : Around} {E : Value → Shared → Prop} {s : Shared}
theorem zip2_endB {t : Bool} {z TI TO i1 i2 l1 l2 : Addr} {k : Nat} {xs ys : Array Value} {x a b : Value} {Q : Fin → Shared → Prop} (hh : A.handled = none) (D : Far2 z TO i1 i2) (L1 : FarM z TO i1 i2 l1) (L2' : FarM z TO i1 i2 l2)
    (hz : IsZip s.heap z TI TO .none) (hI : IsPair s.heap TI (.ref i1) (.ref i2)) (hO : IsPair s.heap TO a b) (h1 : IsIt t s.heap i1 l1 k) (h2 : IsIt t s.heap i2 l2 k) (g1 : IsSq t s.heap l1 xs) (g2 : IsSq t s.heap l2 ys) (ex : xs[k]? = some x) (ey : ys[k]? = none)
    (q : ∀ h' e, (∀ d o, d ≠ z → d ≠ TO → d ≠ i1 → d ≠ i2 → s.heap.get? d = some o → h'.get? d = some o) → (∃ o, h'.get? e = some o ∧ o.cls = .type "StopIteration") → E (.ref e) { s with heap := h' }) :
    wpAny (model prog w) A (Builtin.«zip.__next__» ⟨[.ref z], []⟩) Q E s := by
  show wpAny _ _ (field (.ref z) 2 >>= _) _ _ _
  refine wpAny_bind (wpAny_field hz rfl (x := .bool false) rfl ?_); show wpAny _ _ (field (.ref z) 3 >>= _) _ _ _
  refine wpAny_bind (wpAny_field hz rfl (x := .ref TI) rfl (wpAny_bind (wpAny_seqItems hI rfl ?_))); show wpAny _ _ (Builtin.SmallTypes.ownedTupleIsFree (.ref z) >>= _) _ _ _
  refine wpAny_bind ?_; unfold Builtin.SmallTypes.ownedTupleIsFree
  refine wpAny_bind (wpAny_field hz rfl (x := .none) rfl (wpAny_pure ?_)); simp only [if_true]
  refine wpAny_bind (wpAny_rule (wpAny_bind (wpAny_field hz rfl (x := .ref TO) rfl ?_)))
  refine wpAny_bind (wpAny_setField_rec hz (by simp) fun e1 z1 b1 => ?_)
  replace z1 : IsZip e1 z TI TO .ellipsis := z1
  refine wpAny_bind ?_; simp only [List.zipIdx_cons, List.zipIdx_nil, List.forIn_cons, List.forIn_nil]
  refine wpAny_bind (wpAny_bind (wpAny_onRaise ?_)); show wpAny _ _ (Builtin.SmallTypes.nextOf (.ref i1) >>= _) _ _ _
  refine wpAny_bind (nx_item (h1.at fun o e => b1.extBut _ _ D.az e) (g1.at fun o e => b1.extBut _ _ L1.z e) ex fun e2 n1 b2 => wpAny_pure ?_)
  have O2 : IsPair e2 TO a b := b2.extBut _ _ D.oa (b1.extBut _ _ D.oz hO)
  refine wpAny_bind (wpAny_seqItems O2 rfl (wpAny_bind (upd_pair O2 fun e3 O3 b3 => wpAny_bind (wpAny_letGo (wpAny_pure ?_)))))
  replace O3 : IsPair e3 TO x b := O3
  have up3 : ∀ d o, d ≠ z → d ≠ TO → d ≠ i1 → s.heap.get? d = some o → e3.get? d = some o := fun d o q1 q2 q3 e => b3.extBut _ _ q2 (b2.extBut _ _ q3 (b1.extBut _ _ q1 e))
  have z3 : IsZip e3 z TI TO .ellipsis := b3.extBut _ _ D.oz.symm (b2.extBut _ _ D.az.symm z1)
  refine wpAny_bind (wpAny_bind (wpAny_onRaise ?_)); show wpAny _ _ (Builtin.SmallTypes.nextOf (.ref i2) >>= _) _ _ _
  refine wpAny_bind (nx_end hh (h2.at fun o e => up3 _ o D.bz D.ob.symm D.ab.symm e) (g2.at fun o e => up3 _ o L2'.z L2'.o L2'.a e) ey fun e4 e b4 he => ?_)
  obtain ⟨oe, hoe, hce⟩ := he
  have z4 : IsZip e4 z TI TO .ellipsis := b4 _ _ D.bz.symm z3
  have ne : e ≠ z := fun y => by subst y; rw [z4] at hoe; cases hoe; simp at hce
  exact wpAny_setField_rec z4 (by simp) fun e5 _ b5 => q e5 e (fun d o q1 q2 q3 q4 y => b5.extBut _ _ q1 (b4 _ _ q4 (up3 d o q1 q2 q3 y))) ⟨oe, b5.extBut _ _ ne hoe, hce⟩
end
def ItyB (t : Bool) (a b : Addr) : It :=
  ⟨(Ity t a b).go, (Ity t a b).yld, fun i H => ∃ xs x ys, SqX t H a xs ∧ xs[i]? = some x ∧ SqX t H b ys ∧ ys.length ≤ i⟩
theorem turn_zip2B {P : Program} {w : World} {K : PySem.W.Frag} {elts : List Expr} {kt : Nat} {tp : Pos} (t : Bool) (l1 l2 z TI TO i1 i2 : Addr) (D : Far2 z TO i1 i2) (TIz : TI ≠ z) (TITO : TI ≠ TO) (TI1 : TI ≠ i1) (TI2 : TI ≠ i2) :
    Turn P w K (.Tuple elts kt tp) (ItyB t l1 l2) [z, TI, TO, i1, i2] z (fun i h => IsZip h z TI TO .none ∧ IsPair h TI (.ref i1) (.ref i2) ∧ (∃ a b, IsPair h TO a b) ∧ IsIt t h i1 l1 i ∧ IsIt t h i2 l2 i) where
  mem := by simp
  obj := fun i h st b hb => by
    obtain ⟨hz, hI, ⟨_, _, hO⟩, ⟨o1, e1, _, d1⟩, ⟨o2, e2, _, d2⟩⟩ := st
    simp only [List.mem_cons, List.mem_nil_iff, or_false] at hb
    rcases hb with rfl | rfl | rfl | rfl | rfl
    · exact ⟨_, hz, fun v y => by have y' : Data.fields _ = Data.cell v := y; cases y'⟩
    · exact ⟨_, hI, fun v y => by have y' : Data.seq _ _ = Data.cell v := y; cases y'⟩
    · exact ⟨_, hO, fun v y => by have y' : Data.seq _ _ = Data.cell v := y; cases y'⟩
    · exact ⟨_, e1, fun v y => by rw [d1] at y; cases y⟩
    · exact ⟨_, e2, fun v y => by rw [d2] at y; cases y⟩
  keep := fun i h h' st k => by
    obtain ⟨hz, hI, ⟨a, b, hO⟩, h1, h2⟩ := st
    exact ⟨k z (by simp) _ hz, k TI (by simp) _ hI, ⟨a, b, k TO (by simp) _ hO⟩, h1.at fun o e => k i1 (by simp) o e, h2.at fun o e => k i2 (by simp) o e⟩
  item := by
    intro X hP hw hK hc i pins s σ H E I hf st hg
    subst hP hw hK
    obtain ⟨xs, x, ys, y, p1, p2, e1, e2⟩ := hg
    obtain ⟨t1, r1, f1⟩ := I.sqx p1
    obtain ⟨t2, r2, f2⟩ := I.sqx p2
    obtain ⟨v1, w1, rx⟩ := r1.get e1
    obtain ⟨v2, w2, ry⟩ := r2.get e2
    obtain ⟨hz, hI, ⟨a, b, hO⟩, h1, h2⟩ := st
    have nO : H TO = none := (hf TO (by simp)).1
    have far : ∀ {l : Addr} {zs : List V}, SqX t H l zs → l ≠ TO := fun {l zs} p e => by rw [SqX, e, nO] at p; cases p
    have hT : s.TypeIs (.ref z) "zip" := ⟨_, hz, rfl⟩
    unfold pyNext
    refine wpAny_bind (wpAny_attempt (wpAny_callSpecial?_slot (name := Str.ofString "__next__") hT F.slot_zip_next (wpAny_call_entry F.slot_zip_next hT F.entry_zip_next
      (zip2_item D (farM_of f1 hz (far p1) h1 h2) (farM_of f2 hz (far p2) h1 h2) hz hI hO h1 h2 f1 f2 (x := v1) (y := v2) (by simpa using w1) (by simpa using w2)
        fun h' z1 O1 m1 m2 T1 s1 kk => wpAny_pure ⟨_, rfl, ?_⟩) (F.args_zip_next_1 _))))
    refine wpAny_letOwnedTupleGo_zip z1 fun h4 z4 sb => ?_
    have fT : FpOk X pins H s.heap.objs.size := I.fpOk (Nat.le_refl _) (I.hok.fresh (Nat.le_refl _))
    have k2 : ∀ d o, d ∉ [z, TI, TO, i1, i2] → s.heap.get? d = some o → h4.get? d = some o := fun d o hb e => by
      simp only [List.mem_cons, List.mem_nil_iff, or_false, not_or] at hb
      obtain ⟨q1, q2, q3, q4, q5⟩ := hb
      exact (sb.2 d q1).trans (kk d o q1 q3 q4 q5 e)
    have I1 : Inv X pins σ H { s with heap := h4, toks := s.toks } := I.turnedL (ch := [z, TI, TO, i1, i2]) k2 hf
    have eT : h4.get? s.heap.objs.size = some { cls := .type "tuple", data := .seq #[v1, v2] } := (sb.2 _ (Nat.ne_of_gt (Heap.lt_size hz))).trans T1
    have I2 := I1.track (o := .tup [x, y]) fT (Nat.le_trans I.sz (Nat.le_refl _)) (tup2_ok rx ry eT)
    refine ⟨.ref s.heap.objs.size, _, I2, rfl, ⟨_, x, y, fT.1, rfl, rfl, fun ys hy => by rw [sqx_inj hy p1]; exact e1, fun ys hy => by rw [sqx_inj hy p2]; exact e2⟩,
      ⟨z4, (sb.2 _ TIz).trans (kk _ _ TIz TITO TI1 TI2 hI), ⟨_, _, sb.extBut _ _ D.oz O1⟩, m1.at fun o e => sb.extBut _ _ D.az e, m2.at fun o e => sb.extBut _ _ D.bz e⟩, fun d hb => ?_⟩
    have hlt : d < s.heap.objs.size := by
      obtain ⟨_, g1, _⟩ := h1
      obtain ⟨_, g2, _⟩ := h2
      simp only [List.mem_cons, List.mem_nil_iff, or_false] at hb
      rcases hb with rfl | rfl | rfl | rfl | rfl
      · exact Heap.lt_size hz
      · exact Heap.lt_size hI
      · exact Heap.lt_size hO
      · exact Heap.lt_size g1
      · exact Heap.lt_size g2
    rw [upd_ne (Nat.ne_of_lt hlt)]
    exact (hf d hb).1
  done := by
    intro X hP hw hK hc i pins s σ H E I hf st hg
    subst hP hw hK
    obtain ⟨xs, x, ys, p1, ex, p2, hy⟩ := hg
    obtain ⟨t1, r1, f1⟩ := I.sqx p1
    obtain ⟨t2, r2, f2⟩ := I.sqx p2
    obtain ⟨v1, w1, rx⟩ := r1.get ex
    obtain ⟨hz, hI, ⟨a, b, hO⟩, h1, h2⟩ := st
    have nO : H TO = none := (hf TO (by simp)).1
    have far : ∀ {l : Addr} {zs : List V}, SqX t H l zs → l ≠ TO := fun {l zs} p e => by rw [SqX, e, nO] at p; cases p
    have hT : s.TypeIs (.ref z) "zip" := ⟨_, hz, rfl⟩
    have e2 := r2.length
    unfold pyNext
    refine wpAny_bind (wpAny_attempt (wpAny_callSpecial?_slot (name := Str.ofString "__next__") hT F.slot_zip_next (wpAny_call_entry F.slot_zip_next hT F.entry_zip_next
      (zip2_endB (I.ok.hd hc) D (farM_of f1 hz (far p1) h1 h2) (farM_of f2 hz (far p2) h1 h2) hz hI hO h1 h2 f1 f2 (x := v1) (by simpa using w1) (by simp; omega) fun h' e kk he => ?_) (F.args_zip_next_1 _))))
    obtain ⟨o, ho, hcl⟩ := he
    refine wpAny_bind (wpAny_isInstance (T := "StopIteration") (b := true) ⟨o, ho, hcl⟩ isSubtype_stop ?_)
    refine wpAny_pure ⟨rfl, I.turnedL (t' := s.toks) (ch := [z, TI, TO, i1, i2]) (fun d o hb e => ?_) hf⟩
    simp only [List.mem_cons, List.mem_nil_iff, or_false, not_or] at hb
    exact kk d o hb.1 hb.2.2.1 hb.2.2.2.1 hb.2.2.2.2 e
  self := fun _ _ _ _ _ st h => wpAny_pyIter_zip st.1 h
def iZipB (ta : TA) : TI := fun σ H R => ta σ H fun vs H1 => ∃ t a b xs ys, vs = [.ref a, .ref b] ∧ SqX t H1 a xs ∧ SqX t H1 b ys ∧ R (ItyB t a b) H1
theorem pi_zipB {X : Cx} {a b : Expr} {ta : TA} {p pos : Pos} {elts : List Expr} {kt : Nat} {tp : Pos} (hg : Gl X "zip") (hm : X.mg "zip" = none) (ha : PA X [a, b] ta) (hs : starEach [a, b] X.env = (false, eval a X.env) :: starEach [b] X.env := by rfl) (hs2 : (backTo pos (starEach [b] X.env)).any (·.1) = false := by rfl) :
    PI X (.Tuple elts kt tp) (.Call (.Name "zip" p) [a, b] [] pos) (iZipB ta) := by
  intro pins s σ H R I h
  refine Call_ (ld_blt I hg hm boot_zip (PyProof.Rows.callWith_type1 (thn (ha pos pins s σ H _ I h) fun us s1 ⟨vs, H1, I1, r1, q1⟩ => ?_) hs hs2))
  obtain ⟨t, l1, l2, xs, ys, e, p1, p2, q⟩ := q1
  subst e
  cases r1 with
  | cons ra rr => cases rr with
    | cons rb rr =>
      cases rr
      cases ra; cases rb
      obtain ⟨t1, v1, f1⟩ := I1.sqx p1
      obtain ⟨t2, v2, f2⟩ := I1.sqx p2
      refine call_zip2 f1 f2 fun h' n hn hz hI hO h1 h2 kk => ?_
      refine wpAny_pyIter_zip hz ?_
      have I2 : Inv X pins σ H1 { s1 with heap := h', toks := s1.toks } := I1.kept kk
      have ge : ∀ b, n ≤ b → FpOk X pins H1 b := fun b hb => I1.fpOk (by rw [← hn]; exact hb) (I1.hok.fresh (by rw [← hn]; exact hb))
      have ne : ∀ i j : Nat, i ≠ j → (n + i : Nat) ≠ n + j := fun i j h => by omega
      refine ⟨n + 4, [n + 4, n + 2, n + 3, n, n + 1], _, _, H1, rfl, I2, turn_zip2B t l1 l2 (n + 4) (n + 2) (n + 3) n (n + 1) ⟨ne 3 4 (by decide), ne 0 4 (by decide), ne 1 4 (by decide), ne 3 0 (by decide), ne 3 1 (by decide), ne 0 1 (by decide)⟩
        (ne 2 4 (by decide)) (ne 2 3 (by decide)) (ne 2 0 (by decide)) (ne 2 1 (by decide)), ⟨hz, hI, ⟨_, _, hO⟩, h1, h2⟩, fun b hb => ge b ?_, q⟩
      simp only [List.mem_cons, List.mem_nil_iff, or_false] at hb
      rcases hb with rfl | rfl | rfl | rfl | rfl
      · exact Nat.le_add_right _ _
      · exact Nat.le_add_right _ _
      · exact Nat.le_add_right _ _
      · exact Nat.le_refl _
      · exact Nat.le_add_right _ _
theorem comp_zipB {t : Bool} {g : TG} {tf : TT} {te : TE} {Q : List V → Hp → Prop} {σ : St} {H : Hp} {a b : Addr} {xs ys : List V} (Pv : Nat → List V → St → Hp → Prop) (he : xs.length = ys.length + 1) (hn : ys.length ≤ sizeLine) (h0 : Pv 0 [] σ H) (hl : ∀ i rs σ H, i ≤ ys.length → Pv i rs σ H → SqX t H a xs ∧ SqX t H b ys ∧ rs.length ≤ i)
    (hs : ∀ i x y T rs σ H, xs[i]? = some x → ys[i]? = some y → H T = none → Pv i rs σ H → g (.ref T) σ (upd H T (.tup [x, y])) fun σ2 H2 => tf σ2 H2 fun b H3 => if b = true then te σ2 H3 fun y H4 => Pv (i + 1) (rs ++ [y]) σ2 H4 else Pv (i + 1) rs σ2 H3)
    (hd : ∀ rs σ H, Pv ys.length rs σ H → Q rs H) : CompW (ItyB t a b) g tf te Q σ H := by
  refine ⟨fun i m rs σ H => m = ys.length - i ∧ i ≤ ys.length ∧ Pv i rs σ H, ⟨ys.length, by simp, Nat.zero_le _, h0⟩, ?_⟩
  rintro i m rs σ H ⟨rfl, hi, p⟩
  obtain ⟨q, q2, hz⟩ := hl i rs σ H hi p
  by_cases hlt : i < ys.length
  · refine .inr ⟨⟨xs, xs[i]'(by omega), ys, ys[i]'(by omega), q, q2, by simp, by simp [hlt]⟩, by omega, Pv (i + 1), fun ys' σ' H' p' => ⟨ys.length - (i + 1), by omega, rfl, hlt, p'⟩, fun v H' y => ?_⟩
    obtain ⟨T, x, y', hT, rfl, rfl, y1, y2⟩ := y
    exact hs i x y' T rs σ _ (y1 xs q) (y2 ys q2) hT p
  · have e : i = ys.length := by omega
    exact .inl ⟨⟨xs, xs[i]'(by omega), ys, q, by simp, q2, by omega⟩, by omega, hd rs σ H (e ▸ p)⟩
end L2

end

section
set_option Elab.async false
set_option linter.all false
set_option maxRecDepth 1000000
set_option maxHeartbeats 0
namespace Hd
open PySem PySem.W
noncomputable def runQ (p : Program) (w : World) (n₀ : Nat) (ann : Option Value) (N : Nat) : SharedT → Thread → Option SharedT :=
  @Nat.rec (fun _ => SharedT → Thread → Option SharedT) (fun _ _ => none) (fun _ ih s t => match through t with
    | true => some s
    | false => match Fast.tw6613529449190102663 n₀ ann t with
      | false => none
      | true => match Fast.tw10156331382660048174 (Fast.tw11892475500146522536 Fast.tw14364793385576792824) p w s t with
        | some (s', t') => ih s' t'
        | none => none) N
theorem run_of {p : Program} {w : World} {n₀ : Nat} {ann : Option Value} : ∀ {N : Nat} {s s' : SharedT} {t : Thread}, runQ p w n₀ ann N s t = some s' → topRun treeTable p w n₀ ann N s.abs t = some s'.abs
  | 0, s, s', t, h => by cases h
  | N + 1, s, s', t, h => by
    have h : (match through t with
    | true => some s
    | false => match Fast.tw6613529449190102663 n₀ ann t with
      | false => none
      | true => match Fast.tw10156331382660048174 (Fast.tw11892475500146522536 Fast.tw14364793385576792824) p w s t with
        | some (s', t') => runQ p w n₀ ann N s' t'
        | none => none) = some s' := h
    rw [← Fast.te6613529449190102663, ← Fast.te10156331382660048174, ← Fast.te11892475500146522536, ← Fast.te14364793385576792824] at h
    unfold topRun
    cases ht : through t with
    | true => rw [ht] at h; cases h; rfl
    | false =>
      rw [ht] at h
      cases hk : stepOk n₀ ann t with
      | false => rw [hk] at h; cases h
      | true =>
        rw [hk] at h
        cases hs : stepT (denote treeTable) p w s t with
        | none => rw [hs] at h; cases h
        | some r => obtain ⟨s₂, t₂⟩ := r; rw [hs] at h; dsimp only; rw [stepT_spec hs]; exact run_of h
/-- a tree of a list -/
noncomputable def treeL : List Obj → Nat → BT → BT := @List.rec Obj (fun _ => Nat → BT → BT) (fun _ t => t) (fun o _ ih n t => ih (n + 1) (t.ins n o))
noncomputable def bootT (P : Params) : BT := treeL (boot_heap P).objs.toList 0 .nil
theorem boot_abs (P : Params) : absHeap (bootT P) 11 (boot_heap P).life = boot_heap P := by kernel_rfl
theorem boot_size (P : Params) : ((boot_heap P).isNs mainGlobals && (Array.mk [] : Array GenState).size == 0, (boot_heap P).objs.size, (boot_heap P).nsMap mainGlobals "__annotations__") = (true, 11, some (.ref 6)) := by kernel_rfl
noncomputable def bootS (P : Params) (os : OsState) : SharedT := ⟨bootT P, 11, (boot_heap P).life, Array.mk [], boot_drawn, boot_toks, os⟩
noncomputable def getT (s : SharedT) (a : Addr) : Option Obj := match Nat.blt a s.n with
  | true => match s.tree.get a with
    | some o => alive o
    | none => none
  | false => none
theorem getT_of {s : SharedT} {a : Addr} {o : Obj} (h : getT s a = some o) : s.abs.heap.get? a = some o := by
  unfold getT at h
  cases e : Nat.blt a s.n with
  | false => rw [e] at h; cases h
  | true =>
    rw [e] at h
    cases g : s.tree.get a with
    | none => rw [g] at h; cases h
    | some x => rw [g] at h; exact (abs_get (Nat.le_of_ble_eq_true e) g).trans h
theorem getTs_of {s : SharedT} : ∀ {as : List Addr} {L : List (Nat × Obj)}, as.map (getT s) = L.map (fun p => some p.2) → as.map s.abs.heap.get? = L.map (fun p => some p.2)
  | [], [], _ => rfl
  | [], _ :: _, h => by cases h
  | _ :: _, [], h => by cases h
  | a :: as, p :: L, h => by
    obtain ⟨h1, h2⟩ := List.cons.inj h
    exact List.cons_eq_cons.mpr ⟨getT_of h1, getTs_of h2⟩
abbrev SeenAt (p q : Program) (loose : List Str) (Xt : Shared → Bool) (N : Nat) (g0 : Bool) (w : World) (os : OsState) : Prop := (runQ p w 11 (some (.ref 6)) N (bootS w.params os) (topStub p)).map (fun s =>
      ((staticsOk (importedModules p.main.body) (boot_heap w.params) s.abs.heap && namesBound p s.abs.heap && gensDone s.abs && laidKept (boot_heap w.params) s.abs.heap), openSeen q loose (importedModules p.main.body) Xt g0 s.abs)) = some (true, openGood q loose)
def SeenOk (p q : Program) (loose : List Str) (Xt : Shared → Bool) (N : Nat) (g0 : Bool) : Prop := ∀ (w : World) (os : OsState), SeenAt p q loose Xt N g0 w os
def SeenF (row : String) (b : Bool) (p q : Program) (loose : List Str) (Xt : Shared → Bool) (N : Nat) (g0 : Bool) : Prop := ∀ (w : World) (os : OsState), SeenAt p q loose Xt N g0 (w.withFollow row b) os
theorem left_at {p q : Program} {loose : List Str} {Xt : Shared → Bool} {K : Params → Frag} {as : List Addr} {ex : ∀ P, as = (K P).map (·.1)} {N : Nat} {g0 : Bool} {w : World} (h : ∀ os, SeenAt p q loose Xt N g0 w os) (e : opening p = plainProg p.main.scope.names) (f : ∀ s, fenceModules? p s = some s) (hN : Nat.ble 600 N = true)
    (hK : ∀ os : OsState, (runQ p w 11 (some (.ref 6)) N (bootS w.params os) (topStub p)).map (fun s => as.map (getT s)) = some ((K w.params).map fun p => some p.2)) :
    (openEnds treeTable p w N).map (fun s => (openSeen q loose (importedModules p.main.body) Xt g0 s, (kHook K as ex).obs s)) = some (openGood q loose, (kHook K as ex).val w) := by
  have ho := boot_open e hN f w
  obtain ⟨⟨hh, gs, d, k, os⟩, e1, e2⟩ := Option.map_eq_some_iff.mp ho
  obtain ⟨rfl, rfl, rfl, rfl⟩ : hh = boot_heap w.params ∧ gs = Array.mk [] ∧ d = boot_drawn ∧ k = boot_toks := by simpa using e2
  obtain ⟨z1, z2, z3⟩ : _ ∧ _ ∧ _ := by simpa only [Prod.mk.injEq] using boot_size w.params
  obtain ⟨s, r, l⟩ := Option.map_eq_some_iff.mp (h os)
  obtain ⟨s', r', l'⟩ := Option.map_eq_some_iff.mp (hK os)
  rw [r] at r'
  cases r'
  have l3 := getTs_of l'
  obtain ⟨l1, l2⟩ : _ ∧ _ := by simpa only [Prod.mk.injEq] using l
  have r := run_of r
  have ea : (bootS w.params os).abs = ⟨boot_heap w.params, Array.mk [], boot_drawn, boot_toks, os⟩ := by
    show (⟨absHeap (bootT w.params) 11 (boot_heap w.params).life, Array.mk [], boot_drawn, boot_toks, os⟩ : Shared) = _
    rw [boot_abs]
  rw [ea] at r
  have t : topFrom treeTable p w N ⟨boot_heap w.params, Array.mk [], boot_drawn, boot_toks, os⟩ = some s.abs := by
    unfold topFrom
    dsimp only
    rw [z1, z2, z3, r]
    show (match staticsOk (importedModules p.main.body) (boot_heap w.params) s.abs.heap && namesBound p s.abs.heap && gensDone s.abs && laidKept (boot_heap w.params) s.abs.heap with | true => _ | false => _) = _
    rw [l1]
  unfold openEnds
  rw [e1]
  show (topFrom treeTable p w N _).map _ = _
  rw [t]
  exact congrArg some (Prod.ext l2 l3)
/-- the same where the top asks the world once -/
theorem left_split {p q : Program} {loose : List Str} {Xt : Shared → Bool} {K : Params → Frag} {as : List Addr} {ex : ∀ P, as = (K P).map (·.1)} {N : Nat} {g0 : Bool} (row : String) (h : SeenF row false p q loose Xt N g0) (h' : SeenF row true p q loose Xt N g0) (e : opening p = plainProg p.main.scope.names) (f : ∀ s, fenceModules? p s = some s) (hN : Nat.ble 600 N = true)
    (hK : ∀ (w : World) (os : OsState), (runQ p (w.withFollow row false) 11 (some (.ref 6)) N (bootS (w.withFollow row false).params os) (topStub p)).map (fun s => as.map (getT s)) = some ((K (w.withFollow row false).params).map fun p => some p.2))
    (hK' : ∀ (w : World) (os : OsState), (runQ p (w.withFollow row true) 11 (some (.ref 6)) N (bootS (w.withFollow row true).params os) (topStub p)).map (fun s => as.map (getT s)) = some ((K (w.withFollow row true).params).map fun p => some p.2)) :
    LeftO p q loose Xt (kHook K as ex).obs (kHook K as ex).val N g0 := fun w => by
  have z := World.withFollow_self w row
  cases hb : w.params.followText row <;> rw [hb] at z
  · have := left_at (ex := ex) (h w) e f hN (hK w)
    rw [z] at this; exact this
  · have := left_at (ex := ex) (h' w) e f hN (hK' w)
    rw [z] at this; exact this
end Hd

end

set_option Elab.async false
set_option linter.all false
set_option maxRecDepth 100000
set_option maxHeartbeats 8000000
namespace Cb
open PySem L2
def top (i : Nat) : Stmt := PySem.Challenge.pw_chipbus_k30_whole_equal_by_texts.main.body.getD i (.Pass ⟨0, 0, 0, 0⟩)
theorem bits_le {b : Int} {k : Nat} (h : b.natAbs < 2 ^ k) : Builtin.Int.intBits b ≤ k := by
  unfold Builtin.Int.intBits
  split
  · omega
  · rename_i h0
    have h1 : b.natAbs ≠ 0 := by first | omega | (intro z; simp_all)
    have := (Nat.log2_lt h1).mpr h
    omega
theorem mul_ok {a b : Int} (ha : a.natAbs < 2 ^ 200) (hb : b.natAbs < 2 ^ 200) : IntMulOk a b := IntMulOk.of_bits (Nat.le_trans (bits_le ha) (by decide)) (Nat.le_trans (bits_le hb) (by decide))
theorem log_ok {m : Int} (h : 0 < m) (h2 : m ≤ 2 ^ 64) : m.natAbs.log2 < 9000 := by
  have h1 : m.natAbs ≠ 0 := by omega
  exact Nat.lt_of_lt_of_le ((Nat.log2_lt h1).mpr (show m.natAbs < 2 ^ 65 by omega)) (by decide)
local macro_rules | `(tactic| walk_at "sd") => `(tactic| first | assumption | (exact ⟨by decide, by decide, by decide⟩) | (exact ⟨by assumption, by assumption⟩) | (exact ⟨by decide, by decide +kernel⟩) | (show (0 : Int) < _; decide))
local macro_rules | `(tactic| walk_at "hp") => `(tactic| first | assumption | exact upd_same)
local macro_rules | `(tactic| walk_at "vc") => `(tactic| repeat (first | refine ⟨_, rfl, ?_⟩ | refine ⟨_, _, rfl, rfl, ?_⟩ | refine ⟨_, _, rfl, ?_⟩ | refine ⟨_, _, _, _, rfl, rfl, SqL.of (by walk_at "hp"), rfl, ?_⟩ | refine ⟨_, _, _, _, rfl, rfl, (by walk_at "hp"), rfl, ?_⟩ | refine And.intro (by walk_at "sd") ?_))
theorem seq_step {t u : TS} {D : Ends} (S S' : St → Hp → Prop) (h1 : ∀ σ H, S σ H → ∀ N : St → Hp → Prop, (∀ σ' H', S' σ' H' → N σ' H') → t { D with nx := N } σ H) (h2 : ∀ σ' H', S' σ' H' → u D σ' H') : ∀ σ H, S σ H → tSeq t u D σ H :=
  fun σ H s => h1 σ H s _ h2
theorem rep_flat (m : Nat) (x : Nat) : ((List.replicate m [V.int (x : Int)]).flatten : List V) = vN (List.replicate m x) := by
  unfold vN
  rw [List.map_replicate]
  induction m with
  | zero => rfl
  | succ m ih => rw [List.replicate_succ, List.flatten_cons, ih, List.replicate_succ]; rfl
theorem vN_set (l : List Nat) (j r : Nat) : (vN l).set j (.int (r : Int)) = vN (l.set j r) := by unfold vN; rw [List.map_set]
theorem ln0 {α : Type} {P : List α → Prop} (us : List α) (h : us.length = 0) (k : P []) : P us := by
  rw [List.eq_nil_of_length_eq_zero h]; exact k
theorem lnS {α : Type} {P : List α → Prop} {n : Nat} (us : List α) (h : us.length = n + 1) (k : ∀ a (r : List α), r.length = n → P (a :: r)) : P us := by
  cases us with
  | nil => cases h
  | cons a r => exact k a r (Nat.succ.inj h)
theorem ln1 {α : Type} {P : List α → Prop} (us : List α) (h : us.length = 1) (k : ∀ a, P [a]) : P us := lnS us h fun a r h => ln0 (P := fun r => P (a :: r)) r h (k a)
theorem ln2 {α : Type} {P : List α → Prop} (us : List α) (h : us.length = 2) (k : ∀ a b, P [a, b]) : P us := lnS us h fun a r h => ln1 (P := fun r => P (a :: r)) r h (k a)
theorem ln3 {α : Type} {P : List α → Prop} (us : List α) (h : us.length = 3) (k : ∀ a b c, P [a, b, c]) : P us := lnS us h fun a r h => ln2 (P := fun r => P (a :: r)) r h (k a)
theorem ixN_nat {n c : Nat} (h : c < n) : ixN n (c : Int) = some c := by
  unfold ixN; rw [if_pos (by omega), if_pos (by omega)]; simp
theorem rep_flat1 {α : Type} (n : Nat) (x : α) : (List.replicate n [x]).flatten = List.replicate n x := by
  induction n with
  | zero => rfl
  | succ n ih => rw [List.replicate_succ, List.flatten_cons, ih, List.replicate_succ]; rfl
theorem ty_seq {K : PySem.W.Frag} {H : Hp} {t : Bool} {a : Addr} {xs : List V} (h : SqX t H a xs) : TyOf K H (.ref a) (.type (sqC t)) := by
  cases t with
  | true => exact .tup (xs := xs) h
  | false => exact .lst (xs := xs) h
theorem all_snoc {l : List Nat} {r n : Nat} (h : ∀ w ∈ l, w ≤ n) (hr : r ≤ n) : ∀ w ∈ l ++ [r], w ≤ n := fun b hb => by
  rcases List.mem_append.mp hb with z | z
  · exact h b z
  · rw [List.mem_singleton.mp z]; exact hr
theorem same_mk {H : Hp} {x dx : Addr} {o1 o2 : HO} (hx : H x = none) (hdx : H dx = none) : Same H (upd (upd H dx o1) x o2) := fun b u e => by
  rw [upd_ne (ne_of_none e hx), upd_ne (ne_of_none e hdx)]; exact e
theorem mk_same {H H' : Hp} {x dx : Addr} {o1 o2 : HO} (hx : H x = none) (hdx : H dx = none) (k : KeepP x (upd (upd H dx o1) x o2) H') : Same H H' := fun b u e => k b u (ne_of_none e hx) (same_mk hx hdx _ _ e)
theorem mk_free {H : Hp} {x dx p : Addr} {o1 o2 : HO} (hx : H x = none) (hdx : H dx = none) (h : upd (upd H dx o1) x o2 p = none) : H p = none := by
  cases e : H p with
  | none => rfl
  | some u => rw [same_mk hx hdx _ _ e] at h; cases h
theorem at_heap {P : Hp → Prop} {Hr : Hp} (R : Hp → Prop) (hr : R Hr) (h : ∀ H', R H' → P H') : P Hr := h _ hr
theorem SqX.lst {H : Hp} {a : Addr} {xs : List V} (h : H a = some (.lst xs)) : SqX false H a xs := h
theorem vN_rep (n v : Nat) : vN (List.replicate n v) = List.replicate n (V.int (v : Int)) := by unfold vN; rw [List.map_replicate]
theorem vN_drop (l : List Nat) (n : Nat) : (vN l).drop n = vN (l.drop n) := by unfold vN; rw [List.map_drop]
theorem next_of {D : Ends} {σ : St} {H : Hp} (h : D.nx σ H) : tNext D σ H := h
theorem vN_at' {l : List Nat} {i v : Nat} (h : l[i]? = some v) : (vN l)[i]? = some (V.int (v : Int)) := by unfold vN; rw [List.getElem?_map, h]; rfl

/-! ### texts of chips, read back -/
def spAreFig : Sp := fun vs H Q _ => ∃ n : Nat, n < 256 ∧ vs = [.str (six2 n), .str SIX] ∧ ∀ H', Same H H' → Q (.bl true) H'
def spSixOf : Sp := fun vs H Q _ => ∃ n : Nat, n < 256 ∧ vs = [.str (six2 n), .int 2, .int 2] ∧ ∀ H', Same H H' → Q (.int (n : Int)) H'
def spReadSix : Sp := fun vs H Q _ => ∃ n : Nat, n < 256 ∧ vs = [.str (six2 n), .int 2] ∧ ∀ H', Same H H' → Q (.int (n : Int)) H'
def spReadWord : Sp := fun vs H Q _ => ∃ n : Nat, n < 256 ∧ vs = [.str (six2 n)] ∧ ∀ H', Same H H' → Q (.int (n : Int)) H'
def spOnlyW : Sp := fun vs H Q _ => ∃ (l : Addr) (x : Nat), vs = [.ref l] ∧ H l = some (.lst [.int (x : Int)]) ∧ Q (.int (x : Int)) H
theorem six_size (n : Nat) : (six2 n).cps.size = 2 := rfl
theorem six_at {n i c : Nat} (hn : n < 256) (h : (six2 n).cps[i]? = some c) : ∃ k : Fin 16, c = six1 k.val := by
  have e : (six2 n).cps = #[six1 (n / 16), six1 (n % 16)] := rfl
  rw [e] at h
  match i, h with
  | 0, h => exact ⟨⟨n / 16, by omega⟩, (Option.some.inj h).symm⟩
  | 1, h => exact ⟨⟨n % 16, by omega⟩, (Option.some.inj h).symm⟩
  | i + 2, h => simp at h
theorem six_ascii : ∀ k : Fin 16, decide (six1 k.val < 128) = true := by decide +kernel
theorem six_low {n : Nat} (hn : n < 256) : (six2 n).cps.all (· < 128) = true := by
  have e : (six2 n).cps = #[six1 (n / 16), six1 (n % 16)] := rfl
  have h1 := six_ascii ⟨n / 16, by omega⟩
  have h2 := six_ascii ⟨n % 16, by omega⟩
  rw [e]
  simpa using ⟨of_decide_eq_true h1, of_decide_eq_true h2⟩
theorem six_ne {n : Nat} : decide (V.str (six2 n) = V.str "") = false := by
  refine decide_eq_false fun z => ?_
  have := congrArg PySem.Str.length (V.str.inj z)
  exact absurd this (by show ¬ (2 = 0); decide)
theorem iteD1 {b : Bool} {A B : Prop} (e : b = true) (h : A) : if b = true then A else B := by rw [if_pos e]; exact h
theorem iteD0 {b : Bool} {A B : Prop} (e : b = false) (h : B) : if b = true then A else B := by subst e; exact iteF h
theorem trues (n : Nat) : (List.replicate n true).all id = true := by
  induction n with
  | zero => rfl
  | succ n ih => rw [List.replicate_succ, List.all_cons, ih]; rfl

structure Nums (mg : Str → Option Value) : Prop where
  LAST_WORD : ∃ t, mg "LAST_WORD" = some (.int 255 t)
  MOST_CELLS : ∃ t, mg "MOST_CELLS" = some (.int 4096 t)
  MOST_ROOM : ∃ t, mg "MOST_ROOM" = some (.int 255 t)
  SIXTEEN : ∃ t, mg "SIXTEEN" = some (.str "0123456789abcdef" t)
abbrev sis_number : Stmt := top 14
theorem scis_number : FnScope ["thing", "last"] ["thing", "last"] (defScope sis_number) := ⟨rfl, rfl, rfl, by decide +kernel, rfl, by decide +kernel, by decide +kernel⟩
section
variable {P : Program} {w : World} {K : PySem.W.Frag} {mg : Str → Option Value} {base : Heap}
theorem okis_number {f : Addr} {fd : FuncData} (F : Fun K "is_number" "is_number" sis_number f fd) (T : Blt mg) : FnOk P w K mg base CX0 1 f fd ["thing", "last"] spIsNum := by
  refine F.ok scis_number (fun vs H Q E h => ?_) (fun cdv A outer s H vs Q E hr h => ?_)
  · obtain ⟨a, b, rfl, _⟩ := h; rfl
  · obtain ⟨a, b, rfl, k⟩ := h
    refine ⟨_, (pss_one (ps_ret (pe_and (pe_callB (call_isT "int" (K := K) rfl) (by rfl) T.isinstance bt_isi (pa_cons (pv 0) (pa_cons (pe_bltn rfl T.int bt_int rl_int) pa_nil))) (pe_and (pe_not (pe_callB (call_isT "bool" (K := K) rfl) (by rfl) T.isinstance bt_isi (pa_cons (pv 0) (pa_cons (pe_bltn rfl T.bool bt_bool rl_bool) pa_nil)))) (pe_one (pe_chain op_le op_le pe_int (pv 0) (pv 1))))))), ?rd⟩
    refine ⟨_, rfl, _, _, _, rfl, .int a, rfl, true, rfl, iteT ?_⟩
    refine ⟨_, rfl, _, _, _, rfl, .int a, rfl, false, rfl, true, rfl, iteT ?_⟩
    refine ⟨_, rfl, _, _, rfl, rfl, _, rfl, ite2 (fun h => ?_) (fun h => ?_)⟩
    · have h := of_decide_eq_true h
      refine ⟨_, rfl, _, _, rfl, rfl, ?_⟩
      rw [show decide (0 ≤ a ∧ a ≤ b) = decide (a ≤ b) from decide_eq_decide.mpr ⟨fun z => z.2, fun z => ⟨h, z⟩⟩] at k
      exact k
    · have h : ¬ 0 ≤ a := fun z => h (decide_eq_true z)
      rw [show decide (0 ≤ a ∧ a ≤ b) = false from decide_eq_false fun z => h z.1] at k
      exact k
end
abbrev sis_word : Stmt := top 15
theorem scis_word : FnScope ["thing"] ["thing"] (defScope sis_word) := ⟨rfl, rfl, rfl, by decide +kernel, rfl, by decide +kernel, by decide +kernel⟩
section
variable {P : Program} {w : World} {K : PySem.W.Frag} {mg : Str → Option Value} {base : Heap}
theorem okis_word {f : Addr} {fd : FuncData} (F : Fun K "is_word" "is_word" sis_word f fd) (T : Blt mg) (N : Nums mg) (Gis_number : Cal P w K mg base 1 "is_number" ["thing", "last"] spIsNum) : FnOk P w K mg base CX0 2 f fd ["thing"] spIsWord := by
  refine F.ok scis_word (fun vs H Q E h => ?_) (fun cdv A outer s H vs Q E hr h => ?_)
  · obtain ⟨a, rfl, _⟩ := h; rfl
  · obtain ⟨a, rfl, k⟩ := h
    refine ⟨_, (pss_one (ps_ret (pe_cal Gis_number (hr.mono (by first | decide | omega)) rfl (pa_cons (pv 0) (pa_cons (pe_globI rfl N.LAST_WORD) pa_nil))))), ?rd⟩
    exact ⟨_, rfl, a, 255, rfl, k⟩
end
abbrev scheck_word : Stmt := top 16
theorem sccheck_word : FnScope ["word"] ["word"] (defScope scheck_word) := ⟨rfl, rfl, rfl, by decide +kernel, rfl, by decide +kernel, by decide +kernel⟩
section
variable {P : Program} {w : World} {K : PySem.W.Frag} {mg : Str → Option Value} {base : Heap}
theorem okcheck_word {f : Addr} {fd : FuncData} (F : Fun K "check_word" "check_word" scheck_word f fd) (T : Blt mg) (Gis_word : Cal P w K mg base 2 "is_word" ["thing"] spIsWord) : FnOk P w K mg base CX0 3 f fd ["word"] spChkWord := by
  refine F.ok sccheck_word (fun vs H Q E h => ?_) (fun cdv A outer s H vs Q E hr h => ?_)
  · obtain ⟨a, rfl, _⟩ := h; rfl
  · obtain ⟨a, rfl, h0, h1, k⟩ := h
    refine ⟨_, (pss_one (ps_if (pt_not (pt_val (pe_cal Gis_word (hr.mono (by first | decide | omega)) rfl (pa_cons (pv 0) pa_nil)))) (pss_one ps_never) pss_nil)), ?rd⟩
    refine ⟨_, rfl, a, rfl, _, rfl, iteNS ⟨h0, h1⟩ k⟩
end
abbrev sChip___init__ : Stmt := inClass (top 20) 0
theorem scChip___init__ : FnScope ["self", "head", "held"] ["self", "head", "held"] (defScope sChip___init__) := ⟨rfl, rfl, rfl, by decide +kernel, rfl, by decide +kernel, by decide +kernel⟩
section
variable {P : Program} {w : World} {K : PySem.W.Frag} {mg : Str → Option Value} {base : Heap}
theorem okChip___init__ {f : Addr} {fd : FuncData} (F : Fun K "__init__" "Chip.__init__" sChip___init__ f fd) (T : Blt mg) : FnOk P w K mg base CX0 1 f fd ["self", "head", "held"] (spInit K) := by
  refine F.ok scChip___init__ (fun vs H Q E h => ?_) (fun cdv A outer s H vs Q E hr h => ?_)
  · obtain ⟨a, C, dx, p, hd, rfl, _⟩ := h; rfl
  · obtain ⟨a, C, dx, p, hd, rfl, ha, c, k⟩ := h
    refine ⟨_, (pss_cons (ps_fld (pv 0) (pv 1) rfl)
      (pss_one (ps_fld (pv 0) (pv 2) rfl))), ?rd⟩
    refine ⟨_, rfl, _, rfl, a, C, dx, _, rfl, ha, c.cl, c.head, by show 0 < 1000; decide, ?_⟩
    refine ⟨_, rfl, _, rfl, a, C, dx, _, rfl, upd_same, c.cl, c.held, by show 1 < 1000; decide, ?_⟩
    exact k _ upd_same fun b hb => by rw [upd_ne hb, upd_ne hb]
end
abbrev sby_figures : Stmt := top 8
theorem scby_figures : FnScope ["number", "many", "text", "place"] ["number", "many"] (defScope sby_figures) := ⟨rfl, rfl, rfl, by decide +kernel, rfl, by decide +kernel, by decide +kernel⟩
section
variable {P : Program} {w : World} {K : PySem.W.Frag} {mg : Str → Option Value} {base : Heap}
/-! ### pipes -/
def FIG : Str := "0123456789abcdef"
def figc (k : Nat) : Nat := (FIG.cps.toList[k]?).getD 0
def fig2 (n : Nat) : Str := (⟨#[figc (n / 16)]⟩ : Str) ++ (⟨#[figc (n % 16)]⟩ : Str)
def phead (r : Nat) : Str := Str.empty ++ ("pipe " : Str) ++ fig2 r
theorem fig_at {k : Nat} (h : k < 16) : atI FIG.cps.toList (k : Int) = some (figc k) := by
  have e : FIG.cps.toList.length = 16 := by decide
  refine atI_nat ?_
  unfold figc
  rw [List.getElem?_eq_getElem (by omega)]
  rfl
/-- a pipe of room r with the words ws in it -/
structure ObP (C : Addr) (H : Hp) (a p : Addr) (r : Nat) (ws : List Nat) : Prop where
  ex : ∃ dx, H a = some (.ins C dx [("head", .str (phead r)), ("held", .ref p), ("room", .int (r : Int))])
  ls : H p = some (.lst (vN ws))
theorem ObP.ob {C : Addr} {H : Hp} {a p : Addr} {r : Nat} {ws : List Nat} (o : ObP C H a p r ws) : Ob C H a p (vN ws) [("room", .int (r : Int))] := by
  obtain ⟨⟨dx, e⟩, l⟩ := o
  exact ⟨⟨dx, _, e⟩, l, .inr ⟨_, rfl⟩⟩
def two (_ : List V) : Nat := 2
def sp2fig : Sp := fun vs H Q _ => ∃ n : Nat, vs = [.int (n : Int)] ∧ n ≤ 255 ∧ Q (.str (fig2 n)) H
def spMkP (C : Addr) : Sp := fun vs H Q _ => ∃ a dx, ∃ r : Nat, vs = [.ref a, .int (r : Int)] ∧ 1 ≤ r ∧ r ≤ 255 ∧ H a = some (.ins C dx []) ∧ ∀ (p : Addr) (H' : Hp), H p = none → ObP C H' a p r [] → KeepP a H H' → Q .non H'
def spPLook (C : Addr) : Sp := fun vs H Q _ => ∃ a p, ∃ r : Nat, ∃ ws : List Nat, ∃ c : Int, vs = [.ref a, .int c] ∧ ObP C H a p r ws ∧ ((c = 0 ∧ Q (.int ((ws.headD 0 : Nat) : Int)) H) ∨ (c = 1 ∧ Q (.int (ws.length : Int)) H))
def spPRead (C : Addr) : Sp := fun vs H Q _ => ∃ a p, ∃ r : Nat, ∃ ws : List Nat, ∃ c : Int, vs = [.ref a, .int c] ∧ ObP C H a p r ws ∧ ((c = 0 ∧ Q (.int ((ws.headD 0 : Nat) : Int)) (upd H p (.lst (vN (ws.drop 1))))) ∨ (c = 1 ∧ Q (.int (ws.length : Int)) H))
def spPWrite (C : Addr) : Sp := fun vs H Q _ => ∃ a p, ∃ r : Nat, ∃ ws : List Nat, ∃ c : Int, ∃ v : Nat, vs = [.ref a, .int c, .int (v : Int)] ∧ ObP C H a p r ws ∧ v ≤ 255 ∧ ws.length ≤ 1000 ∧
  ((c = 0 ∧ ((ws.length < r ∧ Q .non (upd H p (.lst (vN (ws ++ [v]))))) ∨ (¬ ws.length < r ∧ Q .non H))) ∨ (c = 1 ∧ Q .non (upd H p (.lst (vN [])))))
def spPEq (C : Addr) : Sp := fun vs H Q _ => ∃ a b p q, ∃ r : Nat, ∃ ws us : List Nat, vs = [.ref a, .ref b] ∧ ObP C H a p r ws ∧ ObP C H b q r us ∧ Q (.bl (decide (ws = us))) H
theorem vN_int (l : List Nat) : vN l = (l.map fun (n : Nat) => (n : Int)).map V.int := by unfold vN; rw [List.map_map]; rfl
theorem map_int_inj {a b : List Nat} : (a.map fun (n : Nat) => (n : Int)) = (b.map fun (n : Nat) => (n : Int)) ↔ a = b := by
  exact List.map_inj_right (fun x y h => by omega)
def spByFig : Sp := fun vs H Q _ => ∃ n : Nat, vs = [.int (n : Int), .int 2] ∧ n ≤ 255 ∧ Q (.str (fig2 n)) H
def figs (n : Nat) : Nat → Str
  | 0 => ("" : Str)
  | 1 => (⟨#[figc (n % 16)]⟩ : Str) ++ ("" : Str)
  | _ => (⟨#[figc (n / 16)]⟩ : Str) ++ ((⟨#[figc (n % 16)]⟩ : Str) ++ ("" : Str))
theorem and15 (n : Nat) : n &&& 15 = n % 16 := Nat.and_two_pow_sub_one_eq_mod n 4
theorem okby_figures {f : Addr} {fd : FuncData} (F : Fun K "by_figures" "by_figures" sby_figures f fd) (T : Blt mg) (N : Nums mg) : FnOk P w K mg base CX0 1 f fd ["number", "many"] spByFig := by
  refine F.ok scby_figures (fun vs H Q E h => ?_) (fun cdv A outer s H vs Q E hr h => ?_)
  · obtain ⟨n, rfl, _⟩ := h; rfl
  · obtain ⟨n, rfl, hn, k⟩ := h
    refine ⟨_, (pss_cons (ps_set (i := 2) scby_figures.nd rfl (Or.inl rfl) pe_str)
      (pss_cons (ps_for PassesOwn.never rfl (pi_range1 rfl T.range (pa_cons (pv 1) pa_nil)) (pg_name (i := 3) scby_figures.nd rfl (Or.inl rfl))
      (pss_one (ps_set (i := 2) scby_figures.nd rfl (Or.inl rfl) (pe_op op_add_str (pe_ix ix_str (pe_globS rfl N.SIXTEEN) (pe_op op_and (pe_op op_shr (pv 0) (pe_op op_mulB pe_int (pv 3))) pe_int) (fun _ _ => rfl)) (pv 2)))))
      (pss_one (ps_ret (pv 2))))), ?rd⟩
    refine ⟨_, rfl, 2, rfl, by decide, by decide, ?_⟩
    refine for_range (n := 2) (fun i σ H2 => ∃ v3, σ = [some (.int (n : Int)), some (.int 2), some (.str (figs n i)), v3] ∧ H2 = H) ⟨none, rfl, rfl⟩ ?_ ?_
    · rintro i σ H2 hi ⟨v3, rfl, rfl⟩
      rcases (show i = 0 ∨ i = 1 by omega) with rfl | rfl
      · refine ⟨_, rfl, _, rfl, _, _, rfl, rfl, mul_ok (by decide) (by decide), _, _, rfl, rfl, (show (0 : Int) ≤ 4 * (0 + ((0 : Nat) : Int)) by decide), _, _, rfl, rfl, FIG, ((n % 16 : Nat) : Int), _, rfl, congrArg V.int ?_, by decide, fig_at (by omega), ?_⟩
        · show Builtin.bitAnd ((n : Int) / 1) ((15 : Nat) : Int) = _
          rw [Int.ediv_one, band, and15]
        · exact ⟨_, rfl, _, _, rfl, rfl, by show 1 + 0 ≤ sizeLine; decide, ⟨_, rfl, rfl⟩⟩
      · refine ⟨_, rfl, _, rfl, _, _, rfl, rfl, mul_ok (by decide) (by decide), _, _, rfl, rfl, (show (0 : Int) ≤ 4 * (0 + ((1 : Nat) : Int)) by decide), _, _, rfl, rfl, FIG, ((n / 16 : Nat) : Int), _, rfl, congrArg V.int ?_, by decide, fig_at (by omega), ?_⟩
        · have e : (n : Int) / 2 ^ (4 * (0 + ((1 : Nat) : Int))).toNat = ((n / 16 : Nat) : Int) := by
            show (n : Int) / 16 = _
            omega
          show Builtin.bitAnd ((n : Int) / 2 ^ (4 * (0 + ((1 : Nat) : Int))).toNat) ((15 : Nat) : Int) = _
          rw [e, band, and15, Nat.mod_eq_of_lt (by omega)]
        · exact ⟨_, rfl, _, _, rfl, rfl, by show 1 + 1 ≤ sizeLine; decide, ⟨_, rfl, rfl⟩⟩
    · rintro σ H2 ⟨v3, rfl, rfl⟩
      exact ⟨_, rfl, k⟩
end
abbrev stwo_figures : Stmt := top 9
theorem sctwo_figures : FnScope ["word"] ["word"] (defScope stwo_figures) := ⟨rfl, rfl, rfl, by decide +kernel, rfl, by decide +kernel, by decide +kernel⟩
section
variable {P : Program} {w : World} {K : PySem.W.Frag} {mg : Str → Option Value} {base : Heap}
theorem oktwo_figures {f : Addr} {fd : FuncData} (F : Fun K "two_figures" "two_figures" stwo_figures f fd) (T : Blt mg) (Gby_figures : Cal P w K mg base 1 "by_figures" ["number", "many"] spByFig) : FnOk P w K mg base CX0 2 f fd ["word"] sp2fig := by
  refine F.ok sctwo_figures (fun vs H Q E h => ?_) (fun cdv A outer s H vs Q E hr h => ?_)
  · obtain ⟨n, rfl, _⟩ := h; rfl
  · obtain ⟨n, rfl, hn, k⟩ := h
    refine ⟨_, (pss_one (ps_ret (pe_cal Gby_figures (hr.mono (by first | decide | omega)) rfl (pa_cons (pv 0) (pa_cons pe_int pa_nil))))), ?rd⟩
    exact ⟨_, rfl, n, rfl, hn, k⟩
/-! ### chips of any kind, and the law's own models of them -/
def NewObH (C : Addr) (H : Hp) (a : Addr) (ws : List V) (hd : Str) (Q : VK) : Prop := ∀ (p : Addr) (H' : Hp), H p = none → (∃ dx, H' a = some (.ins C dx [("head", .str hd), ("held", .ref p)])) → H' p = some (.lst ws) → KeepP a H H' → Q .non H'
def spMk1H (C : Addr) (hd : Str) : Sp := fun vs H Q _ => ∃ a dx, ∃ v : Int, vs = [.ref a, .int v] ∧ 0 ≤ v ∧ v ≤ 255 ∧ H a = some (.ins C dx []) ∧ NewObH C H a [.int v] hd Q
def spMkSH (C : Addr) : Sp := fun vs H Q _ => ∃ a dx, ∃ (n : Nat) (v : Int), vs = [.ref a, .int (n : Int), .int v] ∧ 1 ≤ n ∧ n ≤ 4096 ∧ 0 ≤ v ∧ v ≤ 255 ∧ H a = some (.ins C dx []) ∧ NewObH C H a (List.replicate n (.int v)) "store" Q
def spMkFH (C : Addr) : Sp := fun vs H Q _ => ∃ a dx l, ∃ ws : List Nat, vs = [.ref a, .ref l] ∧ H l = some (.lst (vN ws)) ∧ 1 ≤ ws.length ∧ ws.length ≤ 4096 ∧ (∀ w ∈ ws, w ≤ 255) ∧ H a = some (.ins C dx []) ∧ NewObH C H a (vN ws) "fixed" Q
def kname : Nat → Str
  | 0 => "store"
  | 1 => "fixed"
  | 2 => "latch"
  | 3 => "meter"
  | _ => "pipe"
def khead (kd n : Nat) : Str := if kd = 4 then phead n else kname kd
def kext (kd n : Nat) : List (Str × V) := if kd = 4 then [("room", .int (n : Int))] else []
def ksize (kd : Nat) (ws : List Nat) : Nat := if kd = 4 then 2 else ws.length
def kwr (kd n : Nat) (ws : List Nat) (c v : Nat) : List Nat := if kd = 4 then (if c = 1 then [] else if ws.length < n then ws ++ [v] else ws) else if kd = 1 then ws else ws.set c v
def krd (kd : Nat) (ws : List Nat) (c : Nat) : List Nat := if kd = 3 then [(ws.headD 0 + 1) % 256] else if kd = 4 ∧ c = 0 then ws.drop 1 else ws
def klk (kd : Nat) (ws : List Nat) (c : Nat) : Nat := if kd = 4 then (if c = 1 then ws.length else ws.headD 0) else ws.getD c 0
/-- the bounds -/
structure Kd (kd n : Nat) (ws : List Nat) : Prop where
  k5 : kd < 5
  w5 : ∀ v ∈ ws, v ≤ 255
  ln : ws.length ≤ 4096
  l1 : kd ≠ 4 → 1 ≤ ws.length
  l3 : kd = 3 → ws.length = 1
  pi : kd = 4 → ws.length ≤ n ∧ 1 ≤ n
  n2 : n ≤ 255
theorem Kd.wr {kd n c v : Nat} {ws : List Nat} (k : Kd kd n ws) (hv : v ≤ 255) : Kd kd n (kwr kd n ws c v) := by
  unfold kwr
  split
  · rename_i e
    split
    · exact ⟨k.k5, fun _ h => (nomatch h), Nat.zero_le _, fun h => absurd e h, fun h => by omega, fun h => ⟨Nat.zero_le _, (k.pi h).2⟩, k.n2⟩
    · split
      · refine ⟨k.k5, all_snoc k.w5 hv, ?_, fun h => absurd e h, fun h => by omega, fun h => ⟨?_, (k.pi h).2⟩, k.n2⟩
        · rw [List.length_append]; have := k.n2; show ws.length + 1 ≤ 4096; omega
        · rw [List.length_append]; show ws.length + 1 ≤ n; omega
      · exact k
  · split
    · exact k
    · refine ⟨k.k5, fun b hb => ?_, by rw [List.length_set]; exact k.ln, fun h => by rw [List.length_set]; exact k.l1 h, fun h => by rw [List.length_set]; exact k.l3 h, fun h => by rw [List.length_set]; exact k.pi h, k.n2⟩
      rcases List.mem_or_eq_of_mem_set hb with z | z
      · exact k.w5 b z
      · rw [z]; exact hv
theorem Kd.rd {kd n c : Nat} {ws : List Nat} (k : Kd kd n ws) : Kd kd n (krd kd ws c) := by
  unfold krd
  split
  · rename_i e
    exact ⟨k.k5, fun b hb => by rw [List.mem_singleton.mp hb]; omega, by show 1 ≤ 4096; decide, fun _ => Nat.le_refl _, fun _ => rfl, fun h => by omega, k.n2⟩
  · split
    · rename_i e
      refine ⟨k.k5, fun b hb => k.w5 b (List.mem_of_mem_drop hb), by rw [List.length_drop]; have := k.ln; omega, fun h => absurd e.1 h, fun h => by omega, fun h => ⟨by rw [List.length_drop]; have := (k.pi h).1; omega, (k.pi h).2⟩, k.n2⟩
    · exact k
structure Chp (cs : Nat → Addr) (H : Hp) (x p : Addr) (kd n : Nat) (ws : List Nat) : Prop where
  ex : ∃ dx, H x = some (.ins (cs kd) dx (("head", .str (khead kd n)) :: ("held", .ref p) :: kext kd n))
  ls : H p = some (.lst (vN ws))
structure Mdl (H : Hp) (m row : Addr) (kd n : Nat) (ws : List Nat) : Prop where
  at_ : H m = some (.lst [.str (kname kd), .int (n : Int), .ref row])
  ls : H row = some (.lst (vN ws))
theorem Mdl.same {H H' : Hp} {m row : Addr} {kd n : Nat} {ws : List Nat} (d : Mdl H m row kd n ws) (s : Same H H') : Mdl H' m row kd n ws := ⟨s _ _ d.at_, s _ _ d.ls⟩
theorem Chp.same {cs : Nat → Addr} {H H' : Hp} {x p : Addr} {kd n : Nat} {ws : List Nat} (o : Chp cs H x p kd n ws) (s : Same H H') : Chp cs H' x p kd n ws := by
  obtain ⟨⟨dx, e⟩, l⟩ := o
  exact ⟨⟨dx, s _ _ e⟩, s _ _ l⟩
theorem Chp.ne {cs : Nat → Addr} {H : Hp} {x p : Addr} {kd n : Nat} {ws : List Nat} (o : Chp cs H x p kd n ws) : x ≠ p := fun z => by
  obtain ⟨⟨dx, e⟩, l⟩ := o
  rw [z, l] at e; cases e
/-- the text of a chip -/
def ktext (kd n : Nat) (ws : List Nat) : Str := Txt.join " " (khead kd n :: ws.map fig2)
def spSize : Sp := fun vs H Q _ => ∃ m row, ∃ (kd n : Nat) (ws : List Nat), vs = [.ref m] ∧ Mdl H m row kd n ws ∧ kd < 5 ∧ Q (.int (ksize kd ws : Int)) H
def spLookM : Sp := fun vs H Q _ => ∃ m row, ∃ (kd n c : Nat) (ws : List Nat), vs = [.ref m, .int (c : Int)] ∧ Mdl H m row kd n ws ∧ Kd kd n ws ∧ c < ksize kd ws ∧ ∀ H', Same H H' → Q (.int (klk kd ws c : Int)) H'
def spReadM : Sp := fun vs H Q _ => ∃ m row, ∃ (kd n c : Nat) (ws : List Nat), vs = [.ref m, .int (c : Int)] ∧ Mdl H m row kd n ws ∧ Kd kd n ws ∧ c < ksize kd ws ∧ ∀ v H', H' row = some (.lst (vN (krd kd ws c))) → KeepP row H H' → Q v H'
def spWriteM : Sp := fun vs H Q _ => ∃ m row, ∃ (kd n c v : Nat) (ws : List Nat), vs = [.ref m, .int (c : Int), .int (v : Int)] ∧ Mdl H m row kd n ws ∧ Kd kd n ws ∧ c < ksize kd ws ∧ ∀ H', H' row = some (.lst (vN (kwr kd n ws c v))) → KeepP row H H' → Q .non H'
def spTextM : Sp := fun vs H Q _ => ∃ m row, ∃ (kd n : Nat) (ws : List Nat), vs = [.ref m] ∧ Mdl H m row kd n ws ∧ Kd kd n ws ∧ ∀ H', Same H H' → Q (.str (ktext kd n ws)) H'
theorem kname_eq {kd j : Nat} (h : kd < 5) (hj : j < 5) : decide (V.str (kname kd) = V.str (kname j)) = decide (kd = j) := by
  rcases (show kd = 0 ∨ kd = 1 ∨ kd = 2 ∨ kd = 3 ∨ kd = 4 by omega) with rfl | rfl | rfl | rfl | rfl <;> rcases (show j = 0 ∨ j = 1 ∨ j = 2 ∨ j = 3 ∨ j = 4 by omega) with rfl | rfl | rfl | rfl | rfl <;> decide
/-- what a law asks of the chips' methods, whatever the kind -/
def spW25 (cs : Nat → Addr) (kd : Nat) : Sp := fun vs H Q _ => ∃ x p, ∃ (n c v : Nat) (ws : List Nat), vs = [.ref x, .int (c : Int), .int (v : Int)] ∧ Chp cs H x p kd n ws ∧ Kd kd n ws ∧ c < ksize kd ws ∧ v ≤ 255 ∧ ∀ H', H' p = some (.lst (vN (kwr kd n ws c v))) → (∀ b, b ≠ p → H' b = H b) → Q .non H'
def spR25 (cs : Nat → Addr) (kd : Nat) : Sp := fun vs H Q _ => ∃ x p, ∃ (n c : Nat) (ws : List Nat), vs = [.ref x, .int (c : Int)] ∧ Chp cs H x p kd n ws ∧ Kd kd n ws ∧ c < ksize kd ws ∧ ∀ v H', H' p = some (.lst (vN (krd kd ws c))) → (∀ b, b ≠ p → H' b = H b) → Q v H'
/-- a chip and its model -/
structure Pr (cs : Nat → Addr) (H : Hp) (x p m row : Addr) (kd n : Nat) (ws : List Nat) : Prop where
  o : Chp cs H x p kd n ws
  d : Mdl H m row kd n ws
  k : Kd kd n ws
  np : row ≠ p
  nm : m ≠ p
def spChip25 (cs : Nat → Addr) : Sp := fun vs H Q _ => ∃ b, vs = [.ref b] ∧ BagAt H b 64 ∧ ∀ (u x p m row : Addr) (kd n : Nat) (ws : List Nat) (H' : Hp), H' u = some (.tup [.ref x, .ref m]) → Pr cs H' x p m row kd n ws → H p = none → H row = none → b ≠ p → b ≠ row → BagAt H' b 200 → KeepP b H H' → Q (.ref u) H'
def csOf (a b c d e : Addr) : Nat → Addr
  | 0 => a
  | 1 => b
  | 2 => c
  | 3 => d
  | _ => e
theorem Mth_imp {P : Program} {w : World} {K : PySem.W.Frag} {mg : Str → Option Value} {base : Heap} {k : Nat} {C : Addr} {m : Str} {ks : List Str} {gV : List V → List V → List V} {sp sp' : Sp} (M : Mth P w K mg base k C m ks gV sp) (h : ∀ vs H Q E, sp' vs H Q E → sp vs H Q E) : Mth P w K mg base k C m ks gV sp' := by
  obtain ⟨c, f, fd, ps, g, a, F, b⟩ := M
  exact ⟨c, f, fd, ps, g, a, F.imp h, b⟩
theorem w_plain {cs : Nat → Addr} {kd : Nat} (hk : kd = 0 ∨ kd = 2 ∨ kd = 3) : ∀ vs H Q E, spW25 cs kd vs H Q E → spWrite (cs kd) vs H Q E := by
  rintro vs H Q E ⟨x, p, n, c, v, ws, rfl, o, kk, hc, hv, q⟩
  obtain ⟨dx, e⟩ := o.ex
  have h4 : kd ≠ 4 := by omega
  have h1 : kd ≠ 1 := by omega
  unfold ksize at hc
  unfold kwr at q
  rw [if_neg h4] at hc
  rw [if_neg h4, if_neg h1] at q
  unfold kext at e
  rw [if_neg h4] at e
  exact ⟨x, p, vN ws, [], c, (v : Int), rfl, ⟨⟨dx, _, e⟩, o.ls, .inl rfl⟩, by rw [vN_length]; have := kk.ln; omega, by rw [vN_length]; exact hc, by omega, by omega, q _ (by rw [← vN_set]; exact upd_same) fun b hb => upd_ne hb⟩
theorem w_fixed {cs : Nat → Addr} : ∀ vs H Q E, spW25 cs 1 vs H Q E → spFixW (cs 1) vs H Q E := by
  rintro vs H Q E ⟨x, p, n, c, v, ws, rfl, o, kk, hc, hv, q⟩
  obtain ⟨dx, e⟩ := o.ex
  exact ⟨x, p, vN ws, [], c, (v : Int), rfl, ⟨⟨dx, _, e⟩, o.ls, .inl rfl⟩, by rw [vN_length]; have := kk.ln; omega, by rw [vN_length]; exact hc, by omega, by omega, q _ o.ls fun b hb => rfl⟩
theorem w_pipe {cs : Nat → Addr} : ∀ vs H Q E, spW25 cs 4 vs H Q E → spPWrite (cs 4) vs H Q E := by
  rintro vs H Q E ⟨x, p, n, c, v, ws, rfl, o, kk, hc, hv, q⟩
  have hl := (kk.pi rfl).1
  have hn := kk.n2
  refine ⟨x, p, n, ws, (c : Int), v, rfl, ⟨o.ex, o.ls⟩, hv, by omega, ?_⟩
  unfold kwr at q
  rw [if_pos rfl] at q
  have hc : c < 2 := hc
  rcases (show c = 0 ∨ c = 1 by omega) with rfl | rfl
  · refine .inl ⟨rfl, ?_⟩
    rw [if_neg (by decide)] at q
    by_cases h : ws.length < n
    · rw [if_pos h] at q
      exact .inl ⟨h, q _ upd_same fun b hb => upd_ne hb⟩
    · rw [if_neg h] at q
      exact .inr ⟨h, q _ o.ls fun b hb => rfl⟩
  · exact .inr ⟨rfl, q _ upd_same fun b hb => upd_ne hb⟩
end
abbrev sChip___len__ : Stmt := inClass (top 20) 1
theorem scChip___len__ : FnScope ["self"] ["self"] (defScope sChip___len__) := ⟨rfl, rfl, rfl, by decide +kernel, rfl, by decide +kernel, by decide +kernel⟩
section
variable {P : Program} {w : World} {K : PySem.W.Frag} {mg : Str → Option Value} {base : Heap}
theorem okChip___len__ {f C : Addr} {fd : FuncData} (F : Fun K "__len__" "Chip.__len__" sChip___len__ f fd) (T : Blt mg) (c : ClsOk K C) : FnOk P w K mg base CX0 1 f fd ["self"] (spLen C List.length) := by
  refine F.ok scChip___len__ (fun vs H Q E h => ?_) (fun cdv A outer s H vs Q E hr h => ?_)
  · obtain ⟨a, p, ws, ext, rfl, _⟩ := h; rfl
  · obtain ⟨a, p, ws, ext, rfl, o, k⟩ := h
    refine ⟨_, (pss_one (ps_ret (pe_callB call_len_seq (by rfl) T.len PySem.boot_len (pa_cons (pe_fld (pv 0) rfl) pa_nil)))), ?rd⟩
    obtain ⟨⟨dx, hd, e⟩, l, nn⟩ := o
    exact ⟨_, rfl, a, C, dx, _, _, rfl, e, c.cl, c.held, rfl, p, ws, rfl, .inl (SqL.of l), k⟩
end
abbrev sChip_check_cell : Stmt := inClass (top 20) 5
theorem scChip_check_cell : FnScope ["self", "cell"] ["self", "cell"] (defScope sChip_check_cell) := ⟨rfl, rfl, rfl, by decide +kernel, rfl, by decide +kernel, by decide +kernel⟩
section
variable {P : Program} {w : World} {K : PySem.W.Frag} {mg : Str → Option Value} {base : Heap}
theorem okChip_check_cell {f C : Addr} {fd : FuncData} (F : Fun K "check_cell" "Chip.check_cell" sChip_check_cell f fd) {L : List V → Nat} (T : Blt mg) (Gis_number : Cal P w K mg base 1 "is_number" ["thing", "last"] spIsNum) (M : Mth P w K mg base 1 C "__len__" [] (fun vs _ => vs) (spLen C L)) : FnOk P w K mg base CX0 3 f fd ["self", "cell"] (spChkC C L) := by
  refine F.ok scChip_check_cell (fun vs H Q E h => ?_) (fun cdv A outer s H vs Q E hr h => ?_)
  · obtain ⟨a, p, ws, ext, c, rfl, _⟩ := h; rfl
  · obtain ⟨a, p, ws, ext, c, rfl, o, h0, h1, h2, k⟩ := h
    refine ⟨_, (pss_one (ps_if (pt_not (pt_val (pe_cal Gis_number (hr.mono (by first | decide | omega)) rfl (pa_cons (pv 1) (pa_cons (pe_op op_sub (pe_lenO 1 ⟨rfl, rfl, rfl, rfl, rfl⟩ (hr.mono (by first | decide | omega)) rfl T.len (pv 0)) pe_int) pa_nil))))) (pss_one ps_never) pss_nil)), ?rd⟩
    have o' := o
    obtain ⟨⟨dx, hd, e⟩, l, nn⟩ := o
    refine ⟨_, rfl, _, rfl, a, C, dx, _, _, _, rfl, e, M, a, p, ws, ext, rfl, o', _, rfl, by omega, by omega, _, _, rfl, rfl, ?_⟩
    exact ⟨c, _, rfl, _, rfl, iteNS ⟨h0, by omega⟩ k⟩
end
abbrev sChip_check_write : Stmt := inClass (top 20) 6
theorem scChip_check_write : FnScope ["self", "cell", "word"] ["self", "cell", "word"] (defScope sChip_check_write) := ⟨rfl, rfl, rfl, by decide +kernel, rfl, by decide +kernel, by decide +kernel⟩
section
variable {P : Program} {w : World} {K : PySem.W.Frag} {mg : Str → Option Value} {base : Heap}
theorem okChip_check_write {f C : Addr} {fd : FuncData} (F : Fun K "check_write" "Chip.check_write" sChip_check_write f fd) {L : List V → Nat} (T : Blt mg) (Gcheck_word : Cal P w K mg base 3 "check_word" ["word"] spChkWord) (M : Mth P w K mg base 3 C "check_cell" [] (fun vs _ => vs) (spChkC C L)) : FnOk P w K mg base CX0 4 f fd ["self", "cell", "word"] (spChkW C L) := by
  refine F.ok scChip_check_write (fun vs H Q E h => ?_) (fun cdv A outer s H vs Q E hr h => ?_)
  · obtain ⟨a, p, ws, ext, c, v, rfl, _⟩ := h; rfl
  · obtain ⟨a, p, ws, ext, c, v, rfl, o, h0, h1, h2, h3, h4, k⟩ := h
    refine ⟨_, (pss_cons (ps_expr (pe_mth 3 ⟨rfl, rfl, rfl, rfl, rfl⟩ (hr.mono (by first | decide | omega)) (pv 0) (pa_cons (pv 1) pa_nil)))
      (pss_one (ps_expr (pe_cal Gcheck_word (hr.mono (by first | decide | omega)) rfl (pa_cons (pv 2) pa_nil))))), ?rd⟩
    have o' := o
    obtain ⟨⟨dx, hd, e⟩, l, nn⟩ := o
    refine ⟨_, rfl, a, C, dx, _, _, _, rfl, e, M, by rcases nn with rfl | ⟨r, rfl⟩ <;> rfl, _, rfl, a, p, ws, ext, c, rfl, o', h0, h1, h2, ?_⟩
    exact ⟨_, rfl, v, rfl, h3, h4, k⟩
end
abbrev sChip_look : Stmt := inClass (top 20) 7
theorem scChip_look : FnScope ["self", "cell"] ["self", "cell"] (defScope sChip_look) := ⟨rfl, rfl, rfl, by decide +kernel, rfl, by decide +kernel, by decide +kernel⟩
section
variable {P : Program} {w : World} {K : PySem.W.Frag} {mg : Str → Option Value} {base : Heap}
theorem okChip_look {f C : Addr} {fd : FuncData} (F : Fun K "look" "Chip.look" sChip_look f fd) (T : Blt mg) (c_ : ClsOk K C) (M : Mth P w K mg base 3 C "check_cell" [] (fun vs _ => vs) (spChkC C List.length)) : FnOk P w K mg base CX0 4 f fd ["self", "cell"] (spLook C) := by
  refine F.ok scChip_look (fun vs H Q E h => ?_) (fun cdv A outer s H vs Q E hr h => ?_)
  · obtain ⟨a, p, ws, ext, c, x, rfl, _⟩ := h; rfl
  · obtain ⟨a, p, ws, ext, c, x, rfl, o, h0, h1, k⟩ := h
    refine ⟨_, (pss_cons (ps_expr (pe_mth 3 ⟨rfl, rfl, rfl, rfl, rfl⟩ (hr.mono (by first | decide | omega)) (pv 0) (pa_cons (pv 1) pa_nil)))
      (pss_one (ps_ret (pe_ix ix_list (pe_fld (pv 0) rfl) (pv 1) (fun _ _ => rfl))))), ?rd⟩
    have o' := o
    obtain ⟨⟨dx, hd, e⟩, l, nn⟩ := o
    have hc : c < ws.length := (List.getElem?_eq_some_iff.mp h1).1
    refine ⟨_, rfl, a, C, dx, _, _, _, rfl, e, M, by rcases nn with rfl | ⟨r, rfl⟩ <;> rfl, _, rfl, a, p, ws, ext, _, rfl, o', by omega, by omega, h0, ?_⟩
    exact ⟨_, rfl, a, C, dx, _, _, rfl, e, c_.cl, c_.held, rfl, _, rfl, p, _, _, _, rfl, rfl, SqL.of l, atI_nat h1, k⟩
end
abbrev sChip_state : Stmt := inClass (top 20) 4
theorem scChip_state : FnScope ["self"] ["self"] (defScope sChip_state) := ⟨rfl, rfl, rfl, by decide +kernel, rfl, by decide +kernel, by decide +kernel⟩
section
variable {P : Program} {w : World} {K : PySem.W.Frag} {mg : Str → Option Value} {base : Heap}
theorem okChip_state {f C : Addr} {fd : FuncData} (F : Fun K "state" "Chip.state" sChip_state f fd) (T : Blt mg) (c : ClsOk K C) : FnOk P w K mg base CX0 1 f fd ["self"] (spState C) := by
  refine F.ok scChip_state (fun vs H Q E h => ?_) (fun cdv A outer s H vs Q E hr h => ?_)
  · obtain ⟨a, p, ws, ext, rfl, _⟩ := h; rfl
  · obtain ⟨a, p, ws, ext, rfl, o, k⟩ := h
    refine ⟨_, (pss_one (ps_ret (pe_callTy call_tuple_of (by rfl) T.tuple bt_tuple (pa_cons (pe_fld (pv 0) rfl) pa_nil)))), ?rd⟩
    obtain ⟨⟨dx, hd, e⟩, l, nn⟩ := o
    exact ⟨_, rfl, a, C, dx, _, _, rfl, e, c.cl, c.held, rfl, p, ws, rfl, .inl ⟨SqL.of l, k⟩⟩
end
abbrev sChip_read : Stmt := inClass (top 20) 8
theorem scChip_read : FnScope ["self", "cell"] ["self", "cell"] (defScope sChip_read) := ⟨rfl, rfl, rfl, by decide +kernel, rfl, by decide +kernel, by decide +kernel⟩
section
variable {P : Program} {w : World} {K : PySem.W.Frag} {mg : Str → Option Value} {base : Heap}
theorem okChip_read {f C : Addr} {fd : FuncData} (F : Fun K "read" "Chip.read" sChip_read f fd) (T : Blt mg) (M : Mth P w K mg base 4 C "look" [] (fun vs _ => vs) (spLook C)) : FnOk P w K mg base CX0 5 f fd ["self", "cell"] (spLook C) := by
  refine F.ok scChip_read (fun vs H Q E h => ?_) (fun cdv A outer s H vs Q E hr h => ?_)
  · obtain ⟨a, p, ws, ext, c, x, rfl, _⟩ := h; rfl
  · obtain ⟨a, p, ws, ext, c, x, rfl, o, h0, h1, k⟩ := h
    refine ⟨_, (pss_one (ps_ret (pe_mth 4 ⟨rfl, rfl, rfl, rfl, rfl⟩ (hr.mono (by first | decide | omega)) (pv 0) (pa_cons (pv 1) pa_nil)))), ?rd⟩
    have o' := o
    obtain ⟨⟨dx, hd, e⟩, l, nn⟩ := o
    exact ⟨_, rfl, a, C, dx, _, _, _, rfl, e, M, by rcases nn with rfl | ⟨r, rfl⟩ <;> rfl, _, rfl, a, p, ws, ext, c, x, rfl, o', h0, h1, k⟩
end
abbrev sChip_write : Stmt := inClass (top 20) 9
theorem scChip_write : FnScope ["self", "cell", "word"] ["self", "cell", "word"] (defScope sChip_write) := ⟨rfl, rfl, rfl, by decide +kernel, rfl, by decide +kernel, by decide +kernel⟩
section
variable {P : Program} {w : World} {K : PySem.W.Frag} {mg : Str → Option Value} {base : Heap}
theorem okChip_write {f C : Addr} {fd : FuncData} (F : Fun K "write" "Chip.write" sChip_write f fd) (T : Blt mg) (c_ : ClsOk K C) (M : Mth P w K mg base 4 C "check_write" [] (fun vs _ => vs) (spChkW C List.length)) : FnOk P w K mg base CX0 5 f fd ["self", "cell", "word"] (spWrite C) := by
  refine F.ok scChip_write (fun vs H Q E h => ?_) (fun cdv A outer s H vs Q E hr h => ?_)
  · obtain ⟨a, p, ws, ext, c, v, rfl, _⟩ := h; rfl
  · obtain ⟨a, p, ws, ext, c, v, rfl, o, h0, h1, h2, h3, k⟩ := h
    refine ⟨_, (pss_cons (ps_expr (pe_mth 4 ⟨rfl, rfl, rfl, rfl, rfl⟩ (hr.mono (by first | decide | omega)) (pv 0) (pa_cons (pv 1) (pa_cons (pv 2) pa_nil))))
      (pss_one (ps_asg (pv 2) (pg_sub (pe_fld (pv 0) rfl) (pv 1) set_list)))), ?rd⟩
    have o' := o
    obtain ⟨⟨dx, hd, e⟩, l, nn⟩ := o
    refine ⟨_, rfl, a, C, dx, _, _, _, rfl, e, M, by rcases nn with rfl | ⟨r, rfl⟩ <;> rfl, _, rfl, _, rfl, a, p, ws, ext, _, v, rfl, o', by omega, by omega, h0, h2, h3, ?_⟩
    refine ⟨_, rfl, _, rfl, a, C, dx, _, _, rfl, e, c_.cl, c_.held, rfl, _, rfl, p, _, _, c, rfl, rfl, l, ?_, k⟩
    exact ixN_nat h1
end
abbrev sChip___str__ : Stmt := inClass (top 20) 3
theorem scChip___str__ : FnScope ["self"] ["self"] (defScope sChip___str__) := ⟨rfl, rfl, rfl, by decide +kernel, rfl, by decide +kernel, by decide +kernel⟩
section
variable {P : Program} {w : World} {K : PySem.W.Frag} {mg : Str → Option Value} {base : Heap}
theorem fig_len (n : Nat) : (fig2 n).length = 2 := rfl
theorem fig_sum (ws : List Nat) : ((ws.map fig2).map (·.length)).sum = ws.length * 2 := by
  induction ws with
  | nil => rfl
  | cons a l ih => rw [List.map_cons, List.map_cons, List.sum_cons, ih, fig_len, List.length_cons]; omega
def spStr (C : Addr) : Sp := fun vs H Q _ => ∃ a p dx, ∃ z : Str, ∃ ws : List Nat, ∃ ext, vs = [.ref a] ∧ H a = some (.ins C dx (("head", .str z) :: ("held", .ref p) :: ext)) ∧ H p = some (.lst (vN ws)) ∧ z.length ≤ 1000 ∧ (∀ v ∈ ws, v ≤ 255) ∧ ws.length ≤ 4096 ∧ ∀ H', Same H H' → Q (.str (Txt.join " " (z :: ws.map fig2))) H'
theorem okChip___str__ {f C : Addr} {fd : FuncData} (F : Fun K "__str__" "Chip.__str__" sChip___str__ f fd) (T : Blt mg) (c : ClsOk K C) (Gtwo_figures : Cal P w K mg base 2 "two_figures" ["word"] sp2fig) : FnOk P w K mg base CX0 3 f fd ["self"] (spStr C) := by
  refine F.ok scChip___str__ (fun vs H Q E h => ?_) (fun cdv A outer s H vs Q E hr h => ?_)
  · obtain ⟨a, p, dx, z, ws, ext, rfl, _⟩ := h; rfl
  · obtain ⟨a, p, dx, z, ws, ext, rfl, e, l, hz, h5, hl, k⟩ := h
    refine' ⟨_, (pss_one (ps_ret (pe_bm PySem.F.plainAttrs_str PySem.F.slot_str_join PySem.F.type_str_join (mt_join (K := K) rfl) pe_str (pa_cons (pe_op op_catS (pe_lst (pa_cons (pe_fld (pv 0) rfl) pa_nil)) ?c1) pa_nil)))), ?rd⟩
    (case c1 => exact (pe_comp (Nc := ["word"]) [none] rfl (compOk_of (by rfl)) (pi_list (pe_fld (pv 0) rfl)) (fun _ _ _ _ _ => (pg_name (i := 0) (show (["word"] : List Str).Nodup by decide +kernel) rfl (Or.inl rfl))) (fun _ _ _ _ _ => pf_nil) (fun _ _ _ _ _ => (pe_cal Gtwo_figures (hr.mono (by first | decide | omega)) rfl (pa_cons (pv 0) pa_nil)))))
    refine ⟨rfl, ?_⟩
    refine ⟨_, rfl, a, C, dx, _, _, rfl, e, c.cl, c.head, rfl, by show 1 ≤ sizeLine; decide, fun q1 hq1 => ?_⟩
    have s1 : Same H (upd H q1 (.lst [V.str z])) := same_new hq1
    refine ⟨_, rfl, a, C, dx, _, _, rfl, s1 _ _ e, c.cl, c.held, rfl, p, rfl, ⟨_, SqL.of (s1 _ _ l)⟩, ?_⟩
    refine comp_list (K := K) (a := p) (xs := vN ws) (fun j ys σ X => ∃ v1, σ = [v1] ∧ ys = ((ws.take j).map fig2).map V.str ∧ X = upd H q1 (.lst [V.str z])) (by rw [vN_length]; exact Nat.le_trans hl (by decide)) ⟨none, rfl, rfl, rfl⟩ ?_ ?_ ?_
    · rintro j ys σ X hj ⟨v1, rfl, rfl, rfl⟩
      exact ⟨SqL.of (s1 _ _ l), by rw [List.length_map, List.length_map, List.length_take]; omega⟩
    · rintro j x ys σ X ex ⟨v1, rfl, rfl, rfl⟩
      obtain ⟨b, hb, rfl⟩ := vN_get ex
      refine ⟨_, rfl, b, rfl, h5 b (List.mem_of_getElem? hb), ?_⟩
      refine ⟨_, rfl, ?_, rfl⟩
      rw [List.take_succ, hb]
      simp
    · rintro ys σ X ⟨v1, rfl, rfl, rfl⟩ D hD
      rw [vN_length, List.take_of_length_le (Nat.le_refl _)]
      refine ⟨q1, D, _, _, rfl, rfl, SqL.of (same_new hD _ _ upd_same), SqL.of upd_same, ?_, fun q2 hq2 => ?_⟩
      · rw [List.length_map, List.length_map]; exact Nat.le_trans (Nat.add_le_add_left hl 1) (by decide)
      refine ⟨_, q2, z :: ws.map fig2, rfl, rfl, SqL.of upd_same, ?_, ?_⟩
      · rw [List.map_cons, List.sum_cons, List.length_cons, List.length_map, fig_sum]
        show z.length + ws.length * 2 + (ws.length + 1) * 1 ≤ 16777216
        omega
      · exact k _ ((s1.trans (same_new hD)).trans (same_new hq2))
end
abbrev sFixed_write : Stmt := inClass (top 22) 1
theorem scFixed_write : FnScope ["self", "cell", "word"] ["self", "cell", "word"] (defScope sFixed_write) := ⟨rfl, rfl, rfl, by decide +kernel, rfl, by decide +kernel, by decide +kernel⟩
section
variable {P : Program} {w : World} {K : PySem.W.Frag} {mg : Str → Option Value} {base : Heap}
theorem okFixed_write {f C : Addr} {fd : FuncData} (F : Fun K "write" "Fixed.write" sFixed_write f fd) (T : Blt mg) (M : Mth P w K mg base 4 C "check_write" [] (fun vs _ => vs) (spChkW C List.length)) : FnOk P w K mg base CX0 5 f fd ["self", "cell", "word"] (spFixW C) := by
  refine F.ok scFixed_write (fun vs H Q E h => ?_) (fun cdv A outer s H vs Q E hr h => ?_)
  · obtain ⟨a, p, ws, ext, c, v, rfl, _⟩ := h; rfl
  · obtain ⟨a, p, ws, ext, c, v, rfl, o, h0, h1, h2, h3, k⟩ := h
    refine ⟨_, (pss_one (ps_expr (pe_mth 4 ⟨rfl, rfl, rfl, rfl, rfl⟩ (hr.mono (by first | decide | omega)) (pv 0) (pa_cons (pv 1) (pa_cons (pv 2) pa_nil))))), ?rd⟩
    have o' := o
    obtain ⟨⟨dx, hd, e⟩, l, nn⟩ := o
    exact ⟨_, rfl, a, C, dx, _, _, _, rfl, e, M, by rcases nn with rfl | ⟨r, rfl⟩ <;> rfl, _, rfl, _, rfl, a, p, ws, ext, _, v, rfl, o', by omega, by omega, h0, h2, h3, k⟩
end
abbrev sMeter_read : Stmt := inClass (top 24) 1
theorem scMeter_read : FnScope ["self", "cell", "word"] ["self", "cell"] (defScope sMeter_read) := ⟨rfl, rfl, rfl, by decide +kernel, rfl, by decide +kernel, by decide +kernel⟩
section
variable {P : Program} {w : World} {K : PySem.W.Frag} {mg : Str → Option Value} {base : Heap}
theorem okMeter_read {f C : Addr} {fd : FuncData} (F : Fun K "read" "Meter.read" sMeter_read f fd) (T : Blt mg) (N : Nums mg) (c : ClsOk K C) (M : Mth P w K mg base 4 C "look" [] (fun vs _ => vs) (spLook C)) : FnOk P w K mg base CX0 5 f fd ["self", "cell"] (spMetR C) := by
  refine F.ok scMeter_read (fun vs H Q E h => ?_) (fun cdv A outer s H vs Q E hr h => ?_)
  · obtain ⟨a, p, ext, v, rfl, _⟩ := h; rfl
  · obtain ⟨a, p, ext, v, rfl, o, k⟩ := h
    refine ⟨_, (pss_cons (ps_set (i := 2) scMeter_read.nd rfl (Or.inl rfl) (pe_mth 4 ⟨rfl, rfl, rfl, rfl, rfl⟩ (hr.mono (by first | decide | omega)) (pv 0) (pa_cons (pv 1) pa_nil)))
      (pss_cons (ps_asg (pe_op op_mod (pe_op op_add (pv 2) pe_int) (pe_op op_add (pe_globI rfl N.LAST_WORD) pe_int)) (pg_sub (pe_fld (pv 0) rfl) (pv 1) set_list))
      (pss_one (ps_ret (pv 2))))), ?rd⟩
    have o' := o
    obtain ⟨⟨dx, hd, e⟩, l, nn⟩ := o
    refine ⟨_, rfl, a, C, dx, _, _, _, rfl, e, M, by rcases nn with rfl | ⟨r, rfl⟩ <;> rfl, _, rfl, a, p, _, ext, 0, _, rfl, o', by show 1 ≤ 5000; decide, rfl, ?_⟩
    refine ⟨_, rfl, _, _, rfl, rfl, _, _, rfl, rfl, _, _, rfl, rfl, (show (0 : Int) < 255 + 1 by decide), ?_⟩
    refine ⟨_, rfl, a, C, dx, _, _, rfl, e, c.cl, c.held, rfl, _, rfl, p, _, _, 0, rfl, rfl, l, rfl, ?_⟩
    exact ⟨_, rfl, k⟩
end
abbrev sPipe___len__ : Stmt := inClass (top 25) 1
theorem scPipe___len__ : FnScope ["self"] ["self"] (defScope sPipe___len__) := ⟨rfl, rfl, rfl, by decide +kernel, rfl, by decide +kernel, by decide +kernel⟩
section
variable {P : Program} {w : World} {K : PySem.W.Frag} {mg : Str → Option Value} {base : Heap}
theorem okPipe___len__ {f C : Addr} {fd : FuncData} (F : Fun K "__len__" "Pipe.__len__" sPipe___len__ f fd) (T : Blt mg) (c : ClsOk K C) : FnOk P w K mg base CX0 1 f fd ["self"] (spLen C two) := by
  refine F.ok scPipe___len__ (fun vs H Q E h => ?_) (fun cdv A outer s H vs Q E hr h => ?_)
  · obtain ⟨a, p, ws, ext, rfl, _⟩ := h; rfl
  · obtain ⟨a, p, ws, ext, rfl, o, k⟩ := h
    refine ⟨_, (pss_one (ps_ret pe_int)), ?rd⟩
    exact k
end
abbrev sPipe_look : Stmt := inClass (top 25) 2
theorem scPipe_look : FnScope ["self", "cell"] ["self", "cell"] (defScope sPipe_look) := ⟨rfl, rfl, rfl, by decide +kernel, rfl, by decide +kernel, by decide +kernel⟩
section
variable {P : Program} {w : World} {K : PySem.W.Frag} {mg : Str → Option Value} {base : Heap}
theorem okPipe_look {f C : Addr} {fd : FuncData} (F : Fun K "look" "Pipe.look" sPipe_look f fd) (T : Blt mg) (c : ClsOk K C) (M : Mth P w K mg base 3 C "check_cell" [] (fun vs _ => vs) (spChkC C two)) : FnOk P w K mg base CX0 4 f fd ["self", "cell"] (spPLook C) := by
  refine F.ok scPipe_look (fun vs H Q E h => ?_) (fun cdv A outer s H vs Q E hr h => ?_)
  · obtain ⟨a, p, r, ws, cc, rfl, _⟩ := h; rfl
  · obtain ⟨a, p, r, ws, cc, rfl, o, k⟩ := h
    refine ⟨_, (pss_cons (ps_expr (pe_mth 3 ⟨rfl, rfl, rfl, rfl, rfl⟩ (hr.mono (by first | decide | omega)) (pv 0) (pa_cons (pv 1) pa_nil)))
      (pss_cons (ps_if (pt_cmpR op_eq (pv 1) pe_int (nomark _)) (pss_one (ps_ret (pe_callB call_len_seq (by rfl) T.len PySem.boot_len (pa_cons (pe_fld (pv 0) rfl) pa_nil)))) pss_nil)
      (pss_one (ps_ret (pe_ifExp (pt_truth (pe_fld (pv 0) rfl) (fun _ => rfl)) (pe_ix ix_list (pe_fld (pv 0) rfl) pe_int (fun _ _ => rfl)) pe_int))))), ?rd⟩
    have o' := o.ob
    obtain ⟨⟨dx, e⟩, l⟩ := o
    have hc : 0 ≤ cc ∧ cc < 2 := by rcases k with ⟨rfl, _⟩ | ⟨rfl, _⟩ <;> decide
    refine ⟨_, rfl, a, C, dx, _, _, _, rfl, e, M, rfl, _, rfl, a, p, _, _, cc, rfl, o', hc.1, by show cc < ((2 : Nat) : Int); omega, by show 2 ≤ 5000; decide, ?_⟩
    rcases k with ⟨rfl, k⟩ | ⟨rfl, k⟩
    · refine ⟨_, rfl, rfl, _, rfl, iteF ?_⟩
      refine ⟨_, rfl, a, C, dx, _, _, rfl, e, c.cl, c.held, rfl, ?_⟩
      refine ⟨_, .inl ⟨_, SqL.of l, rfl⟩, ?_⟩
      cases ws with
      | nil => exact iteF k
      | cons w0 ws => exact iteT ⟨_, rfl, a, C, dx, _, _, rfl, e, c.cl, c.held, rfl, p, _, _, _, rfl, rfl, SqL.of l, (atI_nat (j := 0) rfl : atI (vN (w0 :: ws)) ((0 : Nat) : Int) = _), k⟩
    · refine ⟨_, rfl, rfl, _, rfl, iteT ?_⟩
      refine ⟨_, rfl, a, C, dx, _, _, rfl, e, c.cl, c.held, rfl, p, _, rfl, .inl (SqL.of l), ?_⟩
      rw [vN_length]; exact k
end
abbrev sPipe_read : Stmt := inClass (top 25) 3
theorem scPipe_read : FnScope ["self", "cell", "word"] ["self", "cell"] (defScope sPipe_read) := ⟨rfl, rfl, rfl, by decide +kernel, rfl, by decide +kernel, by decide +kernel⟩
section
variable {P : Program} {w : World} {K : PySem.W.Frag} {mg : Str → Option Value} {base : Heap}
theorem okPipe_read {f C : Addr} {fd : FuncData} (F : Fun K "read" "Pipe.read" sPipe_read f fd) (T : Blt mg) (c : ClsOk K C) (M : Mth P w K mg base 4 C "look" [] (fun vs _ => vs) (spPLook C)) : FnOk P w K mg base CX0 5 f fd ["self", "cell"] (spPRead C) := by
  refine F.ok scPipe_read (fun vs H Q E h => ?_) (fun cdv A outer s H vs Q E hr h => ?_)
  · obtain ⟨a, p, r, ws, cc, rfl, _⟩ := h; rfl
  · obtain ⟨a, p, r, ws, cc, rfl, o, k⟩ := h
    refine ⟨_, (pss_cons (ps_set (i := 2) scPipe_read.nd rfl (Or.inl rfl) (pe_mth 4 ⟨rfl, rfl, rfl, rfl, rfl⟩ (hr.mono (by first | decide | omega)) (pv 0) (pa_cons (pv 1) pa_nil)))
      (pss_cons (ps_if (pt_cmpR op_eq (pv 1) pe_int (nomark _)) (pss_one (ps_del1 (pe_fld (pv 0) rfl))) pss_nil)
      (pss_one (ps_ret (pv 2))))), ?rd⟩
    have o' := o
    obtain ⟨⟨dx, e⟩, l⟩ := o
    rcases k with ⟨rfl, k⟩ | ⟨rfl, k⟩
    · refine ⟨_, rfl, a, C, dx, _, _, _, rfl, e, M, rfl, _, rfl, a, p, r, ws, 0, rfl, o', .inl ⟨rfl, ?_⟩⟩
      refine ⟨_, rfl, rfl, _, rfl, iteT ?_⟩
      refine ⟨_, rfl, a, C, dx, _, _, rfl, e, c.cl, c.held, rfl, p, _, rfl, l, ?_⟩
      refine ⟨_, rfl, ?_⟩
      rw [← vN_drop] at k
      exact k
    · refine ⟨_, rfl, a, C, dx, _, _, _, rfl, e, M, rfl, _, rfl, a, p, r, ws, 1, rfl, o', .inr ⟨rfl, ?_⟩⟩
      exact ⟨_, rfl, rfl, _, rfl, iteF ⟨_, rfl, k⟩⟩
end
abbrev sPipe_write : Stmt := inClass (top 25) 4
theorem scPipe_write : FnScope ["self", "cell", "word"] ["self", "cell", "word"] (defScope sPipe_write) := ⟨rfl, rfl, rfl, by decide +kernel, rfl, by decide +kernel, by decide +kernel⟩
section
variable {P : Program} {w : World} {K : PySem.W.Frag} {mg : Str → Option Value} {base : Heap}
theorem okPipe_write {f C : Addr} {fd : FuncData} (F : Fun K "write" "Pipe.write" sPipe_write f fd) (T : Blt mg) (c : ClsOk K C) (M : Mth P w K mg base 4 C "check_write" [] (fun vs _ => vs) (spChkW C two)) : FnOk P w K mg base CX0 5 f fd ["self", "cell", "word"] (spPWrite C) := by
  refine F.ok scPipe_write (fun vs H Q E h => ?_) (fun cdv A outer s H vs Q E hr h => ?_)
  · obtain ⟨a, p, r, ws, cc, v, rfl, _⟩ := h; rfl
  · obtain ⟨a, p, r, ws, cc, v, rfl, o, hv, hz, k⟩ := h
    refine ⟨_, (pss_cons (ps_expr (pe_mth 4 ⟨rfl, rfl, rfl, rfl, rfl⟩ (hr.mono (by first | decide | omega)) (pv 0) (pa_cons (pv 1) (pa_cons (pv 2) pa_nil))))
      (pss_one (ps_if (pt_cmpR op_eq (pv 1) pe_int (nomark _)) (pss_one (ps_expr (pe_bm0 PySem.F.plainAttrs_list PySem.F.slot_list_clear PySem.F.type_list_clear mt_clear (pe_fld (pv 0) rfl)))) (pss_one (ps_if (pt_cmpR op_lt (pe_callB call_len_seq (by rfl) T.len PySem.boot_len (pa_cons (pe_fld (pv 0) rfl) pa_nil)) (pe_fld (pv 0) rfl) (nomark _)) (pss_one (ps_expr (pe_bm PySem.F.plainAttrs_list PySem.F.slot_list_append PySem.F.type_list_append mt_append (pe_fld (pv 0) rfl) (pa_cons (pv 2) pa_nil)))) pss_nil))))), ?rd⟩
    have o' := o.ob
    obtain ⟨⟨dx, e⟩, l⟩ := o
    have hc : 0 ≤ cc ∧ cc < 2 := by rcases k with ⟨rfl, _⟩ | ⟨rfl, _⟩ <;> decide
    refine ⟨_, rfl, a, C, dx, _, _, _, rfl, e, M, rfl, _, rfl, _, rfl, a, p, _, _, cc, (v : Int), rfl, o', hc.1, by show cc < ((2 : Nat) : Int); omega, by show 2 ≤ 5000; decide, by omega, by omega, ?_⟩
    rcases k with ⟨rfl, k⟩ | ⟨rfl, k⟩
    · refine ⟨_, rfl, rfl, _, rfl, iteF ?_⟩
      refine ⟨_, rfl, a, C, dx, _, _, rfl, e, c.cl, c.held, rfl, p, _, rfl, .inl (SqL.of l), ?_⟩
      refine ⟨_, rfl, a, C, dx, _, _, rfl, e, c.cl, c.room, rfl, _, _, rfl, rfl, _, rfl, ?_⟩
      rw [vN_length]
      rcases k with ⟨h1, k⟩ | ⟨h1, k⟩
      · rw [decide_eq_true (show (ws.length : Int) < (r : Int) by omega)]
        refine iteT ?_
        refine ⟨_, rfl, a, C, dx, _, _, rfl, e, c.cl, c.held, rfl, .inl ⟨rfl, _, SqL.of l⟩, _, rfl, p, _, _, rfl, rfl, l, ?_, ?_⟩
        · rw [vN_length]; exact Nat.lt_of_le_of_lt hz (by decide)
        · rw [vN_snoc] at k; exact k
      · rw [decide_eq_false (show ¬ (ws.length : Int) < (r : Int) by omega)]
        exact iteF k
    · refine ⟨_, rfl, rfl, _, rfl, iteT ?_⟩
      exact ⟨_, rfl, a, C, dx, _, _, rfl, e, c.cl, c.held, rfl, .inl ⟨rfl, _, SqL.of l⟩, p, _, rfl, rfl, l, k⟩
end
abbrev sChip___eq__ : Stmt := inClass (top 20) 2
theorem scChip___eq__ : FnScope ["self", "other"] ["self", "other"] (defScope sChip___eq__) := ⟨rfl, rfl, rfl, by decide +kernel, rfl, by decide +kernel, by decide +kernel⟩
section
variable {P : Program} {w : World} {K : PySem.W.Frag} {mg : Str → Option Value} {base : Heap}
def spCEq (cs : Nat → Addr) (kd : Nat) : Sp := fun vs H Q _ => ∃ a b p q, ∃ (kd' n n' : Nat) (ws us : List Nat), kd' < 5 ∧ vs = [.ref a, .ref b] ∧ Chp cs H a p kd n ws ∧ Chp cs H b q kd' n' us ∧ Q (.bl (decide (khead kd n = khead kd' n') && decide (ws = us))) H
theorem okChip___eq__ {f D : Addr} {cs : Nat → Addr} {kd : Nat} {fd : FuncData} (F : Fun K "__eq__" "Chip.__eq__" sChip___eq__ f fd) (T : Blt mg) (hk : kd < 5) (c : ∀ kd, kd < 5 → ClsOk K (cs kd)) (ty : ∀ kd, kd < 5 → TyC K (cs kd) D) (GChip : mg "Chip" = some (.ref D)) : FnOk P w K mg base CX0 1 f fd ["self", "other"] (spCEq cs kd) := by
  refine F.ok scChip___eq__ (fun vs H Q E h => ?_) (fun cdv A outer s H vs Q E hr h => ?_)
  · obtain ⟨a, b, p, q, kd', n, n', ws, us, h5, rfl, _⟩ := h; rfl
  · obtain ⟨a, b, p, q, kd', n, n', ws, us, h5, rfl, oa, ob, k⟩ := h
    refine ⟨_, (pss_one (ps_ret (pe_and (pe_callB (call_isC (K := K) rfl) (by rfl) T.isinstance bt_isi (pa_cons (pv 1) (pa_cons (pe_globR rfl GChip) pa_nil))) (pe_and (pe_cmpR op_eq (pe_fld (pv 0) rfl) (pe_fld (pv 1) rfl) (nomark _)) (pe_one (pe_cmpR (op_eqL (Nat.lt_of_succ_lt (hu_of hr)) (K := K) rfl) (pe_fld (pv 0) rfl) (pe_fld (pv 1) rfl) (nomark _))))))), ?rd⟩
    obtain ⟨⟨dx, ea⟩, la⟩ := oa
    obtain ⟨⟨dy, eb⟩, lb⟩ := ob
    have c1 := c kd hk
    have c2 := c kd' h5
    have ty := ty kd' h5
    refine ⟨_, rfl, _, _, D, _, rfl, .ins eb c2.cl ty.c1 ty.c2 ty.c3 ty.c4, ty.c5, true, rfl, iteT ?_⟩
    refine ⟨_, rfl, a, cs kd, dx, _, _, rfl, ea, c1.cl, c1.head, rfl, _, rfl, b, cs kd', dy, _, _, rfl, eb, c2.cl, c2.head, rfl, rfl, _, rfl, ?_⟩
    by_cases e : khead kd n = khead kd' n'
    · rw [decide_eq_true e, Bool.true_and] at k
      rw [decide_eq_true (congrArg V.str e)]
      refine iteT ?_
      refine ⟨_, rfl, a, cs kd, dx, _, _, rfl, ea, c1.cl, c1.held, rfl, _, rfl, b, cs kd', dy, _, _, rfl, eb, c2.cl, c2.held, rfl, p, q, _, _, rfl, rfl, SqL.of (by rw [← vN_int]; exact la), SqL.of (by rw [← vN_int]; exact lb), ?_⟩
      rw [Bool.false_bne, show decide ((ws.map fun (n : Nat) => (n : Int)) = us.map fun (n : Nat) => (n : Int)) = decide (ws = us) from decide_eq_decide.mpr map_int_inj]
      exact k
    · rw [decide_eq_false e, Bool.false_and] at k
      rw [decide_eq_false (fun z => e (V.str.inj z))]
      exact iteF k
end
abbrev sStore___init__ : Stmt := inClass (top 21) 0
theorem scStore___init__ : FnScope ["self", "cells", "word"] ["self", "cells", "word"] (defScope sStore___init__) := ⟨rfl, rfl, rfl, by decide +kernel, rfl, by decide +kernel, by decide +kernel⟩
section
variable {P : Program} {w : World} {K : PySem.W.Frag} {mg : Str → Option Value} {base : Heap}
theorem okStore___init__ {f C : Addr} {fd : FuncData} {dV : Value} (F : FunD K "__init__" "Store.__init__" sStore___init__ dV f fd) (T : Blt mg) (N : Nums mg) (c : ClsOk K C) (Gis_number : Cal P w K mg base 1 "is_number" ["thing", "last"] spIsNum) (Gis_word : Cal P w K mg base 2 "is_word" ["thing"] spIsWord) (GCChip___init__ : Clm P w K mg base 1 "Chip" "__init__" (spInit K)) : FnOk P w K mg base CX0 3 f fd ["self", "cells", "word"] (spMkSH C) := by
  refine F.ok scStore___init__ (fun vs H Q E h => ?_) (fun cdv A outer s H vs Q E hr h => ?_)
  · obtain ⟨a, dx, n, v, rfl, _⟩ := h; rfl
  · obtain ⟨a, dx, n, v, rfl, h0, h1, h2, h3, ha, k⟩ := h
    refine ⟨_, (pss_cons (ps_if (PW.pt (pw_or (pt_not (pt_val (pe_cal Gis_number (hr.mono (by first | decide | omega)) rfl (pa_cons (pv 1) (pa_cons (pe_globI rfl N.MOST_CELLS) pa_nil))))) (pw_or (pt_cmpR op_lt (pv 1) pe_int (nomark _)) (pw_or1 (pt_not (pt_val (pe_cal Gis_word (hr.mono (by first | decide | omega)) rfl (pa_cons (pv 2) pa_nil)))))))) (pss_one ps_never) pss_nil)
      (pss_one (ps_expr (pe_clm GCChip___init__ (hr.mono (by first | decide | omega)) rfl (pa_cons (pv 0) (pa_cons pe_str (pa_cons (pe_op op_rep (pe_lst (pa_cons (pv 2) pa_nil)) (pv 1)) pa_nil))))))), ?rd⟩
    refine ⟨_, rfl, (n : Int), 4096, rfl, _, rfl, ?_⟩
    rw [decide_eq_true (show (0 : Int) ≤ (n : Int) ∧ (n : Int) ≤ 4096 by omega)]
    refine iteF ⟨_, rfl, _, _, rfl, rfl, _, rfl, ?_⟩
    rw [decide_eq_false (show ¬ (n : Int) < 1 by omega)]
    refine iteF ⟨_, rfl, v, rfl, _, rfl, iteNS ⟨h2, h3⟩ ?_⟩
    refine ⟨_, rfl, _, rfl, by show 1 ≤ sizeLine; decide, fun l hl => ?_⟩
    have en : ((n : Int)).toNat = n := by omega
    refine ⟨_, rfl, l, _, _, rfl, rfl, upd_same, by omega, by omega, ?_, fun p hp => ?_⟩
    · rw [en]; show 1 * n ≤ sizeLine; exact Nat.le_trans (by omega) (show 4096 ≤ sizeLine by decide)
    rw [en, show (List.replicate n [V.int v]).flatten = List.replicate n (V.int v) from rep_flat1 n _]
    have nl : l ≠ a := fun z => by rw [z, ha] at hl; cases hl
    have hpl : p ≠ l := fun z => by rw [z, upd_same] at hp; cases hp
    have hp0 : H p = none := by rw [upd_ne hpl] at hp; exact hp
    have ne : p ≠ a := fun z => by rw [z, ha] at hp0; cases hp0
    refine ⟨a, C, dx, p, _, rfl, by rw [upd_ne (Ne.symm ne), upd_ne (Ne.symm nl)]; exact ha, c, fun H' e1 e2 => ?_⟩
    refine k p H' hp0 ⟨dx, e1⟩ (by rw [e2 p ne]; exact upd_same) fun b o hb e => ?_
    rw [e2 b hb, upd_ne (ne_of_none e hp0), upd_ne (ne_of_none e hl)]; exact e
end
abbrev sFixed___init__ : Stmt := inClass (top 22) 0
theorem scFixed___init__ : FnScope ["self", "words", "held"] ["self", "words"] (defScope sFixed___init__) := ⟨rfl, rfl, rfl, by decide +kernel, rfl, by decide +kernel, by decide +kernel⟩
section
variable {P : Program} {w : World} {K : PySem.W.Frag} {mg : Str → Option Value} {base : Heap}
theorem okFixed___init__ {f C : Addr} {fd : FuncData} (F : Fun K "__init__" "Fixed.__init__" sFixed___init__ f fd) (T : Blt mg) (N : Nums mg) (c : ClsOk K C) (Gis_word : Cal P w K mg base 2 "is_word" ["thing"] spIsWord) (GCChip___init__ : Clm P w K mg base 1 "Chip" "__init__" (spInit K)) : FnOk P w K mg base CX0 3 f fd ["self", "words"] (spMkFH C) := by
  refine F.ok scFixed___init__ (fun vs H Q E h => ?_) (fun cdv A outer s H vs Q E hr h => ?_)
  · obtain ⟨a, dx, l, ws, rfl, _⟩ := h; rfl
  · obtain ⟨a, dx, l, ws, rfl, hl, h1, h2, h3, ha, k⟩ := h
    refine' ⟨_, (pss_cons (ps_set (i := 2) scFixed___init__.nd rfl (Or.inl rfl) (pe_callTy call_list_of (by rfl) T.list bt_list (pa_cons (pv 1) pa_nil)))
      (pss_cons (ps_if (PW.pt (pw_or (pt_not (pt_chain op_le op_le pe_int (pe_callB call_len_seq (by rfl) T.len PySem.boot_len (pa_cons (pv 2) pa_nil)) (pe_globI rfl N.MOST_CELLS))) (pw_or1 (pt_not (pt_val (pe_callB (call_allL rfl) (by rfl) T.all bt_all (pa_cons ?c1 pa_nil))))))) (pss_one ps_never) pss_nil)
      (pss_one (ps_expr (pe_clm GCChip___init__ (hr.mono (by first | decide | omega)) rfl (pa_cons (pv 0) (pa_cons pe_str (pa_cons (pv 2) pa_nil)))))))), ?rd⟩
    (case c1 => exact (pe_comp (Nc := ["word"]) [none] rfl (compOk_of (by rfl)) (pi_list (pv 2)) (fun _ _ _ _ _ => (pg_name (i := 0) (show (["word"] : List Str).Nodup by decide +kernel) rfl (Or.inl rfl))) (fun _ _ _ _ _ => pf_nil) (fun _ _ _ _ _ => (pe_cal Gis_word (hr.mono (by first | decide | omega)) rfl (pa_cons (pv 0) pa_nil)))))
    refine ⟨_, rfl, l, _, rfl, .inl (SqL.of hl), fun p hp => ?_⟩
    have nl : p ≠ a := fun z => by rw [z, ha] at hp; cases hp
    refine ⟨_, rfl, p, _, rfl, .inl (SqL.of upd_same), _, _, rfl, rfl, _, rfl, ?_⟩
    rw [vN_length, decide_eq_true (show (1 : Int) ≤ (ws.length : Int) by omega)]
    refine iteT ⟨_, _, rfl, rfl, _, rfl, ?_⟩
    rw [decide_eq_true (show (ws.length : Int) ≤ 4096 by omega)]
    refine iteF ⟨_, rfl, p, rfl, ⟨_, SqL.of upd_same⟩, ?_⟩
    refine comp_list (K := K) (a := p) (xs := vN ws) (fun j rs σ H1 => ∃ v1, σ = [v1] ∧ rs = List.replicate j (V.bl true) ∧ H1 = upd H p (.lst (vN ws))) (by rw [vN_length]; exact Nat.le_trans h2 (by decide)) ⟨none, rfl, rfl, rfl⟩ ?_ ?_ ?_
    · rintro j rs σ H1 hj ⟨v1, rfl, rfl, rfl⟩
      exact ⟨SqL.of upd_same, by rw [List.length_replicate]; exact Nat.le_refl _⟩
    · rintro j x rs σ H1 ex ⟨v1, rfl, rfl, rfl⟩
      obtain ⟨b, hb, rfl⟩ := vN_get ex
      have := h3 b (List.mem_of_getElem? hb)
      refine ⟨_, rfl, (b : Int), rfl, ?_⟩
      rw [decide_eq_true (show (0 : Int) ≤ (b : Int) ∧ (b : Int) ≤ 255 by omega)]
      exact ⟨_, rfl, List.replicate_succ'.symm, rfl⟩
    · rintro rs σ H1 ⟨v1, rfl, rfl, rfl⟩ D hD
      refine ⟨D, List.replicate (vN ws).length true, rfl, SqL.of (by rw [List.map_replicate]; exact upd_same), _, rfl, ?_⟩
      rw [show (List.replicate (vN ws).length true).all id = true by simp]
      refine iteF ⟨_, rfl, _, rfl, a, C, dx, p, _, rfl, ?_, c, fun H' e1 e2 => ?_⟩
      · exact same_new hD _ _ (same_new hp _ _ ha)
      · refine k p H' hp ⟨dx, e1⟩ (by rw [e2 p nl]; exact same_new hD _ _ upd_same) fun b o hb e => ?_
        rw [e2 b hb]; exact same_new hD _ _ (same_new hp _ _ e)
end
abbrev sLatch___init__ : Stmt := inClass (top 23) 0
theorem scLatch___init__ : FnScope ["self", "word"] ["self", "word"] (defScope sLatch___init__) := ⟨rfl, rfl, rfl, by decide +kernel, rfl, by decide +kernel, by decide +kernel⟩
section
variable {P : Program} {w : World} {K : PySem.W.Frag} {mg : Str → Option Value} {base : Heap}
theorem okLatch___init__ {f C : Addr} {fd : FuncData} {dV : Value} (F : FunD K "__init__" "Latch.__init__" sLatch___init__ dV f fd) (T : Blt mg) (c : ClsOk K C) (Gis_word : Cal P w K mg base 2 "is_word" ["thing"] spIsWord) (GCChip___init__ : Clm P w K mg base 1 "Chip" "__init__" (spInit K)) : FnOk P w K mg base CX0 3 f fd ["self", "word"] (spMk1H C "latch") := by
  refine F.ok scLatch___init__ (fun vs H Q E h => ?_) (fun cdv A outer s H vs Q E hr h => ?_)
  · obtain ⟨a, dx, v, rfl, _⟩ := h; rfl
  · obtain ⟨a, dx, v, rfl, h0, h1, ha, k⟩ := h
    refine ⟨_, (pss_cons (ps_if (pt_not (pt_val (pe_cal Gis_word (hr.mono (by first | decide | omega)) rfl (pa_cons (pv 1) pa_nil)))) (pss_one ps_never) pss_nil)
      (pss_one (ps_expr (pe_clm GCChip___init__ (hr.mono (by first | decide | omega)) rfl (pa_cons (pv 0) (pa_cons pe_str (pa_cons (pe_lst (pa_cons (pv 1) pa_nil)) pa_nil))))))), ?rd⟩
    refine ⟨_, rfl, v, rfl, _, rfl, iteNS ⟨h0, h1⟩ ?_⟩
    refine ⟨_, rfl, _, rfl, by show 1 ≤ sizeLine; decide, fun p hp => ?_⟩
    have ne : p ≠ a := fun z => by rw [z, ha] at hp; cases hp
    refine ⟨a, C, dx, p, _, rfl, by rw [upd_ne (Ne.symm ne)]; exact ha, c, fun H' e1 e2 => ?_⟩
    refine k p H' hp ⟨dx, e1⟩ (by rw [e2 p ne]; exact upd_same) fun b o hb e => ?_
    rw [e2 b hb, upd_ne (ne_of_none e hp)]; exact e
end
abbrev sMeter___init__ : Stmt := inClass (top 24) 0
theorem scMeter___init__ : FnScope ["self", "word"] ["self", "word"] (defScope sMeter___init__) := ⟨rfl, rfl, rfl, by decide +kernel, rfl, by decide +kernel, by decide +kernel⟩
section
variable {P : Program} {w : World} {K : PySem.W.Frag} {mg : Str → Option Value} {base : Heap}
theorem okMeter___init__ {f C : Addr} {fd : FuncData} {dV : Value} (F : FunD K "__init__" "Meter.__init__" sMeter___init__ dV f fd) (T : Blt mg) (c : ClsOk K C) (Gis_word : Cal P w K mg base 2 "is_word" ["thing"] spIsWord) (GCChip___init__ : Clm P w K mg base 1 "Chip" "__init__" (spInit K)) : FnOk P w K mg base CX0 3 f fd ["self", "word"] (spMk1H C "meter") := by
  refine F.ok scMeter___init__ (fun vs H Q E h => ?_) (fun cdv A outer s H vs Q E hr h => ?_)
  · obtain ⟨a, dx, v, rfl, _⟩ := h; rfl
  · obtain ⟨a, dx, v, rfl, h0, h1, ha, k⟩ := h
    refine ⟨_, (pss_cons (ps_if (pt_not (pt_val (pe_cal Gis_word (hr.mono (by first | decide | omega)) rfl (pa_cons (pv 1) pa_nil)))) (pss_one ps_never) pss_nil)
      (pss_one (ps_expr (pe_clm GCChip___init__ (hr.mono (by first | decide | omega)) rfl (pa_cons (pv 0) (pa_cons pe_str (pa_cons (pe_lst (pa_cons (pv 1) pa_nil)) pa_nil))))))), ?rd⟩
    refine ⟨_, rfl, v, rfl, _, rfl, iteNS ⟨h0, h1⟩ ?_⟩
    refine ⟨_, rfl, _, rfl, by show 1 ≤ sizeLine; decide, fun p hp => ?_⟩
    have ne : p ≠ a := fun z => by rw [z, ha] at hp; cases hp
    refine ⟨a, C, dx, p, _, rfl, by rw [upd_ne (Ne.symm ne)]; exact ha, c, fun H' e1 e2 => ?_⟩
    refine k p H' hp ⟨dx, e1⟩ (by rw [e2 p ne]; exact upd_same) fun b o hb e => ?_
    rw [e2 b hb, upd_ne (ne_of_none e hp)]; exact e
end
abbrev sPipe___init__ : Stmt := inClass (top 25) 0
theorem scPipe___init__ : FnScope ["self", "room"] ["self", "room"] (defScope sPipe___init__) := ⟨rfl, rfl, rfl, by decide +kernel, rfl, by decide +kernel, by decide +kernel⟩
section
variable {P : Program} {w : World} {K : PySem.W.Frag} {mg : Str → Option Value} {base : Heap}
theorem okPipe___init__ {f C : Addr} {fd : FuncData} {dV : Value} (F : FunD K "__init__" "Pipe.__init__" sPipe___init__ dV f fd) (T : Blt mg) (N : Nums mg) (c : ClsOk K C) (Gis_number : Cal P w K mg base 1 "is_number" ["thing", "last"] spIsNum) (Gtwo_figures : Cal P w K mg base 2 "two_figures" ["word"] sp2fig) (GCChip___init__ : Clm P w K mg base 1 "Chip" "__init__" (spInit K)) : FnOk P w K mg base CX0 3 f fd ["self", "room"] (spMkP C) := by
  refine F.ok scPipe___init__ (fun vs H Q E h => ?_) (fun cdv A outer s H vs Q E hr h => ?_)
  · obtain ⟨a, dx, r, rfl, _⟩ := h; rfl
  · obtain ⟨a, dx, r, rfl, h0, h1, ha, k⟩ := h
    refine ⟨_, (pss_cons (ps_if (PW.pt (pw_or (pt_not (pt_val (pe_cal Gis_number (hr.mono (by first | decide | omega)) rfl (pa_cons (pv 1) (pa_cons (pe_globI rfl N.MOST_ROOM) pa_nil))))) (pw_or1 (pt_cmpR op_lt (pv 1) pe_int (nomark _))))) (pss_one ps_never) pss_nil)
      (pss_cons (ps_expr (pe_clm GCChip___init__ (hr.mono (by first | decide | omega)) rfl (pa_cons (pv 0) (pa_cons (pe_fs2 pe_str (pe_cal Gtwo_figures (hr.mono (by first | decide | omega)) rfl (pa_cons (pv 1) pa_nil))) (pa_cons (pe_lst pa_nil) pa_nil)))))
      (pss_one (ps_fld (pv 0) (pv 1) rfl)))), ?rd⟩
    refine ⟨_, rfl, (r : Int), 255, rfl, _, rfl, ?_⟩
    rw [decide_eq_true (show (0 : Int) ≤ (r : Int) ∧ (r : Int) ≤ 255 by omega)]
    refine iteF ⟨_, rfl, _, _, rfl, rfl, _, rfl, ?_⟩
    rw [decide_eq_false (show ¬ (r : Int) < 1 by omega)]
    refine iteF ⟨_, rfl, _, rfl, by show 5 ≤ 1000; decide, _, rfl, r, rfl, h1, _, rfl, by show 1 + 1 ≤ 1000; decide, ?_⟩
    refine ⟨by show 0 ≤ sizeLine; decide, fun p hp => ?_⟩
    have ne : p ≠ a := fun z => by rw [z, ha] at hp; cases hp
    refine ⟨a, C, dx, p, _, rfl, by rw [upd_ne (Ne.symm ne)]; exact ha, c, fun H' e1 e2 => ?_⟩
    refine ⟨_, rfl, _, rfl, a, C, dx, _, rfl, e1, c.cl, c.room, by show 2 < 1000; decide, ?_⟩
    refine k p _ hp ⟨⟨dx, upd_same⟩, by rw [upd_ne ne, e2 p ne]; exact upd_same⟩ fun b o hb e => ?_
    rw [upd_ne hb, e2 b hb, upd_ne (ne_of_none e hp)]; exact e
end
abbrev s_law_cell_at : Stmt := top 38
theorem sc_law_cell_at : FnScope ["script", "k"] ["script", "k"] (defScope s_law_cell_at) := ⟨rfl, rfl, rfl, by decide +kernel, rfl, by decide +kernel, by decide +kernel⟩
section
variable {P : Program} {w : World} {K : PySem.W.Frag} {mg : Str → Option Value} {base : Heap}
theorem ok_law_cell_at {f : Addr} {fd : FuncData} (F : Fun K "_law_cell_at" "_law_cell_at" s_law_cell_at f fd) (T : Blt mg) : FnOk P w K mg base CX0 1 f fd ["script", "k"] (spCellAt K) := by
  refine F.ok sc_law_cell_at (fun vs H Q E h => ?_) (fun cdv A outer s H vs Q E hr h => ?_)
  · obtain ⟨a, ns, n, rfl, _⟩ := h; rfl
  · obtain ⟨a, ns, n, rfl, hS, hb, k⟩ := h
    refine ⟨_, (pss_cons (ps_if (pt_cmpR op_lt (pv 1) (pe_callB call_len_seq (by rfl) T.len PySem.boot_len (pa_cons (pv 0) pa_nil)) (nomark _)) (pss_one (ps_ret (pe_ix ix_list (pv 0) (pv 1) (fun _ _ => rfl)))) pss_nil)
      (pss_one (ps_ret pe_int))), ?rd⟩
    refine ⟨_, rfl, _, rfl, a, _, rfl, .inl hS, _, _, rfl, rfl, _, rfl, ite2 (fun h => ?_) (fun h => ?_)⟩
    · have h := of_decide_eq_true h
      rw [List.length_map] at h
      have hlt : n < ns.length := by omega
      have hg : (ns.map V.int)[n]? = some (V.int ns[n]) := by simp [hlt]
      exact ⟨_, rfl, _, rfl, a, _, _, _, rfl, rfl, hS, atI_nat hg, k _ (hb _ (List.getElem_mem hlt))⟩
    · exact k 0 (by decide)
end
abbrev s_law_bag : Stmt := top 39
theorem sc_law_bag : FnScope ["seed", "place", "start"] ["seed", "place"] (defScope s_law_bag) := ⟨rfl, rfl, rfl, by decide +kernel, rfl, by decide +kernel, by decide +kernel⟩
section
variable {P : Program} {w : World} {K : PySem.W.Frag} {mg : Str → Option Value} {base : Heap}
theorem ok_law_bag {f : Addr} {fd : FuncData} (F : Fun K "_law_bag" "_law_bag" s_law_bag f fd) (T : Blt mg) : FnOk P w K mg base CX0 1 f fd ["seed", "place"] spBag := by
  refine F.ok sc_law_bag (fun vs H Q E h => ?_) (fun cdv A outer s H vs Q E hr h => ?_)
  · obtain ⟨z, n, rfl, _⟩ := h; rfl
  · obtain ⟨z, n, rfl, hb, hn, k⟩ := h
    refine ⟨_, (pss_cons (ps_set (i := 2) sc_law_bag.nd rfl (Or.inl rfl) (pe_op op_mod (pe_op op_add (pe_op op_mulB (pe_op op_mod (pv 0) pe_int) pe_int) (pe_op op_mulB pe_int (pe_op op_pow (pe_op op_add (pv 1) pe_int) pe_int))) pe_int))
      (pss_one (ps_ret (pe_lst (pa_cons (pe_callB (call_max2 rfl) (by rfl) T.max PyProof.Rows.boot_max (pa_cons pe_int (pa_cons (pe_op op_sub (pv 0) (pe_op op_pow pe_int pe_int)) pa_nil))) (pa_cons (pv 2) (pa_cons (pv 1) pa_nil))))))), ?rd⟩
    walk_at "vc"
    have z0 := Int.emod_nonneg z (show (2147483647 : Int) ≠ 0 by decide)
    have z1 := Int.emod_lt_of_pos z (show (0 : Int) < 2147483647 by decide)
    refine And.intro (mul_ok (by omega) (by decide)) ?_
    walk_at "vc"
    have c3 : ((n : Int) + 1) ^ 3 = ((n + 1) ^ 3 : Nat) := by norm_cast
    have c4 : (n + 1) ^ 3 ≤ 64 ^ 3 := Nat.pow_le_pow_left (by omega) 3
    refine And.intro ⟨by decide, by decide, by omega⟩ ?_
    refine ⟨_, _, rfl, rfl, mul_ok (by decide) (show Int.natAbs (((n : Int) + 1) ^ 3) < 2 ^ 200 by rw [c3]; omega), ?_⟩
    walk_at "vc"
    refine ⟨by show 3 ≤ sizeLine; decide, fun l hl => ?_⟩
    refine k l _ hl ⟨_, _, _, upd_same, ?_, Int.emod_nonneg _ (by decide), Int.emod_lt_of_pos _ (by decide), by omega, Int.le_refl _⟩ (same_new hl)
    split <;> omega
end
abbrev s_law_draw : Stmt := top 40
theorem sc_law_draw : FnScope ["bag", "many", "found"] ["bag", "many"] (defScope s_law_draw) := ⟨rfl, rfl, rfl, by decide +kernel, rfl, by decide +kernel, by decide +kernel⟩
section
variable {P : Program} {w : World} {K : PySem.W.Frag} {mg : Str → Option Value} {base : Heap}
theorem ok_law_draw {f : Addr} {fd : FuncData} (F : Fun K "_law_draw" "_law_draw" s_law_draw f fd) (T : Blt mg) : FnOk P w K mg base CX0 1 f fd ["bag", "many"] spDraw := by
  refine F.ok sc_law_draw (fun vs H Q E h => ?_) (fun cdv A outer s H vs Q E hr h => ?_)
  · obtain ⟨p, m, n, rfl, _⟩ := h; rfl
  · obtain ⟨p, m, n, rfl, ⟨a, b, c, hp, ha, hb, hb2, hc, hc2⟩, hn, hm, hm2, k⟩ := h
    refine ⟨_, (pss_cons (ps_if (pt_cmpR op_gt (pe_ix ix_list (pv 0) pe_int (fun _ _ => rfl)) pe_int (nomark _)) (pss_cons (ps_set (i := 2) sc_law_draw.nd rfl (Or.inl rfl) (pe_op op_mod (pe_ix ix_list (pv 0) pe_int (fun _ _ => rfl)) (pv 1)))
      (pss_cons (ps_asg (pe_op op_fdivB (pe_ix ix_list (pv 0) pe_int (fun _ _ => rfl)) (pv 1)) (pg_sub (pv 0) pe_int set_list))
      (pss_one (ps_ret (pv 2))))) pss_nil)
      (pss_cons (ps_asg (pe_op op_add (pe_ix ix_list (pv 0) pe_int (fun _ _ => rfl)) pe_int) (pg_sub (pv 0) pe_int set_list))
      (pss_cons (ps_asg (pe_op op_mod (pe_op op_pow (pe_op op_add (pe_ix ix_list (pv 0) pe_int (fun _ _ => rfl)) (pe_op op_mulB pe_int (pe_ix ix_list (pv 0) pe_int (fun _ _ => rfl)))) pe_int) pe_int) (pg_sub (pv 0) pe_int set_list))
      (pss_one (ps_ret (pe_op op_mod (pe_op op_fdivB (pe_ix ix_list (pv 0) pe_int (fun _ _ => rfl)) pe_int) (pv 1))))))), ?rd⟩
    have lm := log_ok hm (by omega)
    walk_at "vc"
    refine ite2 (fun h1 => ?_) (fun h1 => ?_)
    · walk_at "vc"
      have h0 := Int.emod_nonneg a (Int.ne_of_gt hm)
      have e : ((a % m).toNat : Int) = a % m := Int.toNat_of_nonneg h0
      have := k (a % m).toNat (upd H p (.lst [.int (a / m), .int b, .int c])) (by rw [e]; exact Int.emod_lt_of_pos _ hm) ⟨_, b, c, upd_same, Int.ediv_nonneg ha (Int.le_of_lt hm), hb, hb2, hc, by omega⟩ (fun b hb => upd_ne hb)
      rw [e] at this
      exact this
    · walk_at "vc"
      refine And.intro (mul_ok (by decide) (by omega)) ?_
      walk_at "vc"
      refine And.intro ⟨by decide, by decide, by omega⟩ ?_
      walk_at "vc"
      obtain ⟨v, hv⟩ : ∃ v, (b + 15485863 * (c + 1)) ^ Int.toNat 5 % 2147483647 = v := ⟨_, rfl⟩
      have v0 : 0 ≤ v := by rw [← hv]; exact Int.emod_nonneg _ (by decide)
      have v1 : v < 2147483647 := by rw [← hv]; exact Int.emod_lt_of_pos _ (by decide)
      have h0 := Int.emod_nonneg (v / 128) (Int.ne_of_gt hm)
      have e : ((v / 128 % m).toNat : Int) = v / 128 % m := Int.toNat_of_nonneg h0
      have := k (v / 128 % m).toNat (upd (upd H p (.lst [.int a, .int b, .int (c + 1)])) p (.lst [.int a, .int v, .int (c + 1)])) (by rw [e]; exact Int.emod_lt_of_pos _ hm) ⟨a, v, _, upd_same, ha, v0, v1, by omega, by omega⟩ (fun b hb => by rw [upd_ne hb, upd_ne hb])
      rw [e] at this
      subst hv
      exact this
end
abbrev s_law_alike : Stmt := top 41
theorem sc_law_alike : FnScope ["found", "due"] ["found", "due"] (defScope s_law_alike) := ⟨rfl, rfl, rfl, by decide +kernel, rfl, by decide +kernel, by decide +kernel⟩
section
variable {P : Program} {w : World} {K : PySem.W.Frag} {mg : Str → Option Value} {base : Heap}
theorem ok_law_alike {f : Addr} {fd : FuncData} {m n : Nat} {sp : Sp} (F : Fun K "_law_alike" "_law_alike" s_law_alike f fd) (T : Blt mg) (G_law_alike : Cal P w K mg base n "_law_alike" ["found", "due"] sp) (hsp : ∀ k, m = k + 1 → sp = spAlike k) : FnOk P w K mg base CX0 (n + 1) f fd ["found", "due"] (spAlike m) := by
  refine F.ok sc_law_alike (fun vs H Q E h => ?_) (fun cdv A outer s H vs Q E hr h => ?_)
  · obtain ⟨v, w, rfl, _⟩ := h; rfl
  · obtain ⟨v, w, rfl, hL, k⟩ := h
    refine' ⟨_, (pss_cons (ps_if (pt_cmp (pc_isN (pv 1))) (pss_one (ps_ret (pe_cmp (pc_isN (pv 0))))) pss_nil)
      (pss_cons (ps_if (pt_val (pe_callB (call_isT "bool" (K := K) rfl) (by rfl) T.isinstance bt_isi (pa_cons (pv 1) (pa_cons (pe_bltn rfl T.bool bt_bool rl_bool) pa_nil)))) (pss_one (ps_ret (pe_and (pe_callB (call_isT "bool" (K := K) rfl) (by rfl) T.isinstance bt_isi (pa_cons (pv 0) (pa_cons (pe_bltn rfl T.bool bt_bool rl_bool) pa_nil))) (pe_one (pe_cmpR op_eq (pv 0) (pv 1) (nomark _)))))) pss_nil)
      (pss_cons (ps_if (pt_val (pe_callB (call_isT "int" (K := K) rfl) (by rfl) T.isinstance bt_isi (pa_cons (pv 1) (pa_cons (pe_bltn rfl T.int bt_int rl_int) pa_nil)))) (pss_one (ps_ret (pe_and (pe_callB (call_isT "int" (K := K) rfl) (by rfl) T.isinstance bt_isi (pa_cons (pv 0) (pa_cons (pe_bltn rfl T.int bt_int rl_int) pa_nil))) (pe_and (pe_not (pe_callB (call_isT "bool" (K := K) rfl) (by rfl) T.isinstance bt_isi (pa_cons (pv 0) (pa_cons (pe_bltn rfl T.bool bt_bool rl_bool) pa_nil)))) (pe_one (pe_cmpR op_eq (pv 0) (pv 1) (nomark _))))))) pss_nil)
      (pss_cons (ps_if (pt_val (pe_callB (call_isT "str" (K := K) rfl) (by rfl) T.isinstance bt_isi (pa_cons (pv 1) (pa_cons (pe_bltn rfl T.str bt_str rl_str) pa_nil)))) (pss_one (ps_ret (pe_and (pe_callB (call_isT "str" (K := K) rfl) (by rfl) T.isinstance bt_isi (pa_cons (pv 0) (pa_cons (pe_bltn rfl T.str bt_str rl_str) pa_nil))) (pe_one (pe_cmpR op_eq (pv 0) (pv 1) (nomark _)))))) pss_nil)
      (pss_cons (ps_if (PW.pt (pw_or (pt_cmpR op_ne (pe_callB (call_isT "tuple" (K := K) rfl) (by rfl) T.isinstance bt_isi (pa_cons (pv 1) (pa_cons (pe_bltn rfl T.tuple bt_tuple rl_tuple) pa_nil))) (pe_callB (call_isT "tuple" (K := K) rfl) (by rfl) T.isinstance bt_isi (pa_cons (pv 0) (pa_cons (pe_bltn rfl T.tuple bt_tuple rl_tuple) pa_nil))) (nomark _)) (pw_or1 (pt_cmpR op_ne (pe_callB (call_isT "list" (K := K) rfl) (by rfl) T.isinstance bt_isi (pa_cons (pv 1) (pa_cons (pe_bltn rfl T.list bt_list rl_list) pa_nil))) (pe_callB (call_isT "list" (K := K) rfl) (by rfl) T.isinstance bt_isi (pa_cons (pv 0) (pa_cons (pe_bltn rfl T.list bt_list rl_list) pa_nil))) (nomark _))))) (pss_one (ps_ret pe_bl)) pss_nil)
      (pss_one (ps_ret (pe_and (pe_cmpR op_eq (pe_callB call_len_seq (by rfl) T.len PySem.boot_len (pa_cons (pv 0) pa_nil)) (pe_callB call_len_seq (by rfl) T.len PySem.boot_len (pa_cons (pv 1) pa_nil)) (nomark _)) (pe_one (pe_callB (call_allL rfl) (by rfl) T.all bt_all (pa_cons ?c1 pa_nil))))))))))), ?rd⟩
    (case c1 => exact (pe_comp (Nc := ["one", "other"]) [none, none] rfl (compOk_of (by rfl)) (pi_zipX rfl T.zip (pa_cons (pv 0) (pa_cons (pv 1) pa_nil))) (fun _ _ _ _ _ => (pg_tupE 2 (K := K) rfl rfl (pgs_cons (pg_name (i := 0) (show (["one", "other"] : List Str).Nodup by decide +kernel) rfl (Or.inl rfl)) (pgs_cons (pg_name (i := 1) (show (["one", "other"] : List Str).Nodup by decide +kernel) rfl (Or.inl rfl)) pgs_nil)))) (fun _ _ _ _ _ => pf_nil) (fun _ _ _ _ _ => (pe_cal G_law_alike (hr.mono (by first | decide | omega)) rfl (pa_cons (pv 0) (pa_cons (pv 1) pa_nil))))))
    cases hL with
    | int i =>
      refine ⟨_, rfl, _, rfl, iteF ?_⟩
      refine ⟨_, rfl, _, _, _, rfl, .int i, rfl, false, rfl, iteF ?_⟩
      refine ⟨_, rfl, _, _, _, rfl, .int i, rfl, true, rfl, iteT ⟨_, rfl, _, _, _, rfl, .int i, rfl, true, rfl, iteT ⟨_, rfl, _, _, _, rfl, .int i, rfl, false, rfl, true, rfl, iteT ⟨_, rfl, _, rfl, rfl, ?_⟩⟩⟩⟩
      rw [decide_eq_true rfl]
      exact k H fun _ _ z => z
    | @seq m' t a b xs ys ha hb hl hz h =>
      have ty : ∀ {q : Addr} {us : List V}, SqX t H q us → TyOf K H (.ref q) (.type (sqC t)) := fun {q us} e => ty_seq e
      have kb : PySem.W.kitOne K (.type (sqC t)) (.type "bool") = some false := by cases t <;> rfl
      have ki : PySem.W.kitOne K (.type (sqC t)) (.type "int") = some false := by cases t <;> rfl
      have ks : PySem.W.kitOne K (.type (sqC t)) (.type "str") = some false := by cases t <;> rfl
      have kt : PySem.W.kitOne K (.type (sqC t)) (.type "tuple") = some t := by cases t <;> rfl
      have kl : PySem.W.kitOne K (.type (sqC t)) (.type "list") = some (!t) := by cases t <;> rfl
      refine ⟨_, rfl, _, rfl, iteF ?_⟩
      refine ⟨_, rfl, _, _, _, rfl, ty hb, kb, false, rfl, iteF ?_⟩
      refine ⟨_, rfl, _, _, _, rfl, ty hb, ki, false, rfl, iteF ?_⟩
      refine ⟨_, rfl, _, _, _, rfl, ty hb, ks, false, rfl, iteF ?_⟩
      refine ⟨_, rfl, _, _, _, rfl, ty hb, kt, _, rfl, _, _, _, rfl, ty ha, kt, rfl, _, rfl, iteNS rfl ?_⟩
      refine ⟨_, rfl, _, _, _, rfl, ty hb, kl, _, rfl, _, _, _, rfl, ty ha, kl, rfl, _, rfl, iteNS rfl ?_⟩
      have sq : ∀ {q : Addr} {us : List V}, SqX t H q us → SqL K H q us ∨ SqT K H q us := fun {q us} e => by
        cases t with
        | true => exact .inr (SqT.of e)
        | false => exact .inl (SqL.of e)
      refine ⟨_, rfl, a, xs, rfl, sq ha, _, rfl, b, ys, rfl, sq hb, rfl, _, rfl, ?_⟩
      rw [decide_eq_true (show V.int (xs.length : Int) = V.int (ys.length : Int) by rw [hl])]
      refine iteT ?_
      obtain rfl := hsp m' rfl
      refine ⟨_, rfl, _, rfl, t, a, b, xs, ys, rfl, ha, hb, ?_⟩
      refine comp_zipX (t := t) (xs := xs) (ys := ys) (fun j rs σ H1 => ∃ v1 v2, σ = [v1, v2] ∧ rs = List.replicate j (V.bl true) ∧ Same H H1) hl hz ⟨none, none, rfl, rfl, fun _ _ z => z⟩ ?_ ?_ ?_
      · rintro j rs σ H1 hj ⟨v1, v2, rfl, rfl, s1⟩
        exact ⟨s1 _ _ ha, s1 _ _ hb, by rw [List.length_replicate]; exact Nat.le_refl _⟩
      · rintro j x y U rs σ H1 ex ey hU ⟨v1, v2, rfl, rfl, s1⟩
        refine g_pair ?_
        have s2 := s1.trans (same_new (o := .tup [x, y]) hU)
        refine ⟨_, rfl, _, rfl, x, y, rfl, (h j x y ex ey).same s2, fun H3 s3 => ?_⟩
        exact ⟨_, _, rfl, List.replicate_succ'.symm, s2.trans s3⟩
      · rintro rs σ H1 ⟨v1, v2, rfl, rfl, s1⟩ D hD
        refine ⟨D, List.replicate xs.length true, rfl, SqL.of (by rw [List.map_replicate]; exact upd_same), ?_⟩
        rw [show (List.replicate xs.length true).all id = true by simp]
        exact k _ (s1.trans (same_new hD))
end
abbrev s_law_word : Stmt := top 42
theorem sc_law_word : FnScope ["bag", "way"] ["bag"] (defScope s_law_word) := ⟨rfl, rfl, rfl, by decide +kernel, rfl, by decide +kernel, by decide +kernel⟩
section
variable {P : Program} {w : World} {K : PySem.W.Frag} {mg : Str → Option Value} {base : Heap}
theorem ok_law_word {f : Addr} {fd : FuncData} (F : Fun K "_law_word" "_law_word" s_law_word f fd) (T : Blt mg) (G_law_draw : Cal P w K mg base 1 "_law_draw" ["bag", "many"] spDraw) : FnOk P w K mg base CX0 2 f fd ["bag"] spWord := by
  refine F.ok sc_law_word (fun vs H Q E h => ?_) (fun cdv A outer s H vs Q E hr h => ?_)
  · obtain ⟨p, n, rfl, _⟩ := h; rfl
  · obtain ⟨p, n, rfl, hB, hn, k⟩ := h
    refine ⟨_, (pss_cons (ps_set (i := 1) sc_law_word.nd rfl (Or.inl rfl) (pe_cal G_law_draw (hr.mono (by first | decide | omega)) rfl (pa_cons (pv 0) (pa_cons pe_int pa_nil))))
      (pss_cons (ps_if (pt_cmpR op_lt (pv 1) pe_int (nomark _)) (pss_one (ps_ret (pe_ix ix_list (pe_lst (pa_cons pe_int (pa_cons pe_int (pa_cons pe_int (pa_cons pe_int pa_nil))))) (pv 1) (fun _ _ => rfl)))) pss_nil)
      (pss_one (ps_ret (pe_cal G_law_draw (hr.mono (by first | decide | omega)) rfl (pa_cons (pv 0) (pa_cons pe_int pa_nil))))))), ?rd⟩
    refine ⟨_, rfl, p, _, n, rfl, hB, by omega, by decide, by decide, fun r H1 hr1 hB1 k1 => ?_⟩
    refine ⟨_, rfl, _, _, rfl, rfl, _, rfl, ite2 (fun h => ?_) (fun h => ?_)⟩
    · have h := of_decide_eq_true h
      obtain ⟨x, hx, hat⟩ : ∃ x : Nat, x ≤ 255 ∧ atI [V.int 0, V.int 255, V.int 254, V.int 1] (r : Int) = some (.int (x : Int)) := by
        rcases (show r = 0 ∨ r = 1 ∨ r = 2 ∨ r = 3 by omega) with rfl | rfl | rfl | rfl
        · exact ⟨0, by omega, rfl⟩
        · exact ⟨255, by omega, rfl⟩
        · exact ⟨254, by omega, rfl⟩
        · exact ⟨1, by omega, rfl⟩
      refine ⟨by show 4 ≤ sizeLine; decide, fun q hq => ⟨_, rfl, q, _, _, _, rfl, rfl, SqL.of upd_same, hat, ?_⟩⟩
      exact k x _ hx ((hB1.mono (by omega)).same (same_new hq)) fun b o hb e => same_new hq _ _ (by rw [k1 b hb]; exact e)
    · refine ⟨_, rfl, p, _, _, rfl, hB1, by omega, by decide, by decide, fun r2 H2 hr2 hB2 k2 => ?_⟩
      exact k r2 H2 (by omega) hB2 fun b o hb e => by rw [k2 b hb, k1 b hb]; exact e
end
abbrev sonly_word : Stmt := top 31
theorem sconly_word : FnScope ["held"] ["held"] (defScope sonly_word) := ⟨rfl, rfl, rfl, by decide +kernel, rfl, by decide +kernel, by decide +kernel⟩
section
variable {P : Program} {w : World} {K : PySem.W.Frag} {mg : Str → Option Value} {base : Heap}
theorem okonly_word {f : Addr} {fd : FuncData} (F : Fun K "only_word" "only_word" sonly_word f fd) (T : Blt mg) : FnOk P w K mg base CX0 1 f fd ["held"] spOnlyW := by
  refine F.ok sconly_word (fun vs H Q E h => ?_) (fun cdv A outer s H vs Q E hr h => ?_)
  · obtain ⟨l, x, rfl, _⟩ := h; rfl
  · obtain ⟨l, x, rfl, el, k⟩ := h
    refine ⟨_, (pss_cons (ps_if (pt_cmpR op_ne (pe_callB call_len_seq (by rfl) T.len PySem.boot_len (pa_cons (pv 0) pa_nil)) pe_int (nomark _)) (pss_one ps_never) pss_nil)
      (pss_one (ps_ret (pe_ix ix_list (pv 0) pe_int (fun _ _ => rfl))))), ?rd⟩
    refine ⟨_, rfl, l, _, rfl, .inl (SqL.of el), rfl, _, rfl, iteD0 rfl (next_of ?_)⟩
    exact ⟨_, rfl, l, _, _, _, rfl, rfl, SqL.of el, rfl, k⟩
end
abbrev sare_figures : Stmt := top 10
theorem scare_figures : FnScope ["text", "figures"] ["text", "figures"] (defScope sare_figures) := ⟨rfl, rfl, rfl, by decide +kernel, rfl, by decide +kernel, by decide +kernel⟩
section
variable {P : Program} {w : World} {K : PySem.W.Frag} {mg : Str → Option Value} {base : Heap}
theorem okare_figures {f : Addr} {fd : FuncData} (F : Fun K "are_figures" "are_figures" sare_figures f fd) (T : Blt mg) : FnOk P w K mg base CX0 1 f fd ["text", "figures"] spAreFig := by
  refine F.ok scare_figures (fun vs H Q E h => ?_) (fun cdv A outer s H vs Q E hr h => ?_)
  · obtain ⟨n, hn, rfl, _⟩ := h; rfl
  · obtain ⟨n, hn, rfl, k⟩ := h
    refine' ⟨_, (pss_one (ps_ret (pe_and (pe_cmpR op_ne (pv 0) pe_str (nomark _)) (pe_one (pe_callB (call_allL rfl) (by rfl) T.all bt_all (pa_cons ?c1 pa_nil)))))), ?rd⟩
    (case c1 => exact (pe_comp (Nc := ["sign", "figures"]) [none, some 1] rfl (compOk_of (by rfl)) (pi_str (pv 0)) (fun _ _ _ _ _ => (pg_name (i := 0) (show (["sign", "figures"] : List Str).Nodup by decide +kernel) rfl (Or.inl rfl))) (fun _ _ _ _ _ => pf_nil) (fun _ _ _ _ _ => (pe_cmpR op_inS (pv 0) (pv 1) (by with_unfolding_all rfl)))))
    refine ⟨_, rfl, rfl, _, rfl, iteD1 (by rw [six_ne]; rfl) ?_⟩
    refine ⟨_, rfl, six2 n, rfl, six_low hn, ?_⟩
    refine comp_str (fun i ys σ Y => (∃ v0 : Option V, σ = [v0, some (.str SIX)]) ∧ ys = (List.replicate i true).map V.bl ∧ Y = H) (by rw [six_size]; decide) ⟨⟨none, rfl⟩, rfl, rfl⟩ ?_ ?_ ?_
    · rintro i ys σ Y ⟨_, rfl, _⟩
      rw [List.length_map, List.length_replicate]; exact Nat.le_refl _
    · rintro i c ys σ Y hc ⟨⟨v0, rfl⟩, rfl, rfl⟩
      obtain ⟨kk, rfl⟩ := six_at hn hc
      refine ⟨_, rfl, _, rfl, _, _, rfl, rfl, ⟨_, rfl⟩, ?_, rfl⟩
      rw [six_in kk, List.replicate_succ', List.map_append]; rfl
    rintro ys σ Y ⟨_, rfl, rfl⟩ D hD
    refine ⟨D, List.replicate (six2 n).cps.size true, rfl, SqL.of upd_same, ?_⟩
    rw [trues]
    exact k _ (same_new hD)
end
abbrev ssixteen_of : Stmt := top 11
theorem scsixteen_of : FnScope ["text", "fewest", "most"] ["text", "fewest", "most"] (defScope ssixteen_of) := ⟨rfl, rfl, rfl, by decide +kernel, rfl, by decide +kernel, by decide +kernel⟩
section
variable {P : Program} {w : World} {K : PySem.W.Frag} {mg : Str → Option Value} {base : Heap}
theorem oksixteen_of {f : Addr} {fd : FuncData} (F : Fun K "sixteen_of" "sixteen_of" ssixteen_of f fd) (T : Blt mg) (N : Nums mg) (Gare_figures : Cal P w K mg base 1 "are_figures" ["text", "figures"] spAreFig) : FnOk P w K mg base CX0 2 f fd ["text", "fewest", "most"] spSixOf := by
  refine F.ok scsixteen_of (fun vs H Q E h => ?_) (fun cdv A outer s H vs Q E hr h => ?_)
  · obtain ⟨n, hn, rfl, _⟩ := h; rfl
  · obtain ⟨n, hn, rfl, k⟩ := h
    refine ⟨_, (pss_cons (ps_if (PW.pt (pw_or (pt_not (pt_chain op_le op_le (pv 1) (pe_callB call_len_str (by rfl) T.len PySem.boot_len (pa_cons (pv 0) pa_nil)) (pv 2))) (pw_or1 (pt_not (pt_val (pe_cal Gare_figures (hr.mono (by first | decide | omega)) rfl (pa_cons (pv 0) (pa_cons (pe_globS rfl N.SIXTEEN) pa_nil)))))))) (pss_one (ps_ret pe_non)) pss_nil)
      (pss_one (ps_ret (pe_callTy call_sixteen (by rfl) T.int bt_int (pa_cons (pv 0) (pa_cons pe_int pa_nil)))))), ?rd⟩
    refine ⟨_, rfl, _, rfl, _, rfl, by show 2 ≤ sizeLine; decide, _, _, rfl, rfl, _, rfl, iteT ⟨_, rfl, _, _, rfl, rfl, _, rfl, iteF ?_⟩⟩
    refine ⟨_, rfl, n, hn, rfl, fun H1 s1 => ⟨_, rfl, iteF (next_of ?_)⟩⟩
    exact ⟨_, rfl, six2 n, n, rfl, n16_two n hn, k H1 s1⟩
end
abbrev sread_sixteen : Stmt := top 27
theorem scread_sixteen : FnScope ["text", "many", "number"] ["text", "many"] (defScope sread_sixteen) := ⟨rfl, rfl, rfl, by decide +kernel, rfl, by decide +kernel, by decide +kernel⟩
section
variable {P : Program} {w : World} {K : PySem.W.Frag} {mg : Str → Option Value} {base : Heap}
theorem okread_sixteen {f : Addr} {fd : FuncData} (F : Fun K "read_sixteen" "read_sixteen" sread_sixteen f fd) (T : Blt mg) (Gsixteen_of : Cal P w K mg base 2 "sixteen_of" ["text", "fewest", "most"] spSixOf) : FnOk P w K mg base CX0 3 f fd ["text", "many"] spReadSix := by
  refine F.ok scread_sixteen (fun vs H Q E h => ?_) (fun cdv A outer s H vs Q E hr h => ?_)
  · obtain ⟨n, hn, rfl, _⟩ := h; rfl
  · obtain ⟨n, hn, rfl, k⟩ := h
    refine ⟨_, (pss_cons (ps_set (i := 2) scread_sixteen.nd rfl (Or.inl rfl) (pe_cal Gsixteen_of (hr.mono (by first | decide | omega)) rfl (pa_cons (pv 0) (pa_cons (pv 1) (pa_cons (pv 1) pa_nil)))))
      (pss_cons (ps_if (pt_cmp (pc_isN (pv 2))) (pss_one ps_never) pss_nil)
      (pss_one (ps_ret (pv 2))))), ?rd⟩
    refine ⟨_, rfl, _, rfl, _, rfl, n, hn, rfl, fun H1 s1 => ?_⟩
    refine ⟨_, rfl, _, rfl, iteF (next_of ?_)⟩
    exact ⟨_, rfl, k H1 s1⟩
end
abbrev sread_word : Stmt := top 28
theorem scread_word : FnScope ["text"] ["text"] (defScope sread_word) := ⟨rfl, rfl, rfl, by decide +kernel, rfl, by decide +kernel, by decide +kernel⟩
section
variable {P : Program} {w : World} {K : PySem.W.Frag} {mg : Str → Option Value} {base : Heap}
theorem okread_word {f : Addr} {fd : FuncData} (F : Fun K "read_word" "read_word" sread_word f fd) (T : Blt mg) (Gread_sixteen : Cal P w K mg base 3 "read_sixteen" ["text", "many"] spReadSix) : FnOk P w K mg base CX0 4 f fd ["text"] spReadWord := by
  refine F.ok scread_word (fun vs H Q E h => ?_) (fun cdv A outer s H vs Q E hr h => ?_)
  · obtain ⟨n, hn, rfl, _⟩ := h; rfl
  · obtain ⟨n, hn, rfl, k⟩ := h
    refine ⟨_, (pss_one (ps_ret (pe_cal Gread_sixteen (hr.mono (by first | decide | omega)) rfl (pa_cons (pv 0) (pa_cons pe_int pa_nil))))), ?rd⟩
    exact ⟨_, rfl, n, hn, rfl, k⟩
end
abbrev sfixed_of : Stmt := top 30
theorem scfixed_of : FnScope ["held"] ["held"] (defScope sfixed_of) := ⟨rfl, rfl, rfl, by decide +kernel, rfl, by decide +kernel, by decide +kernel⟩
section
variable {P : Program} {w : World} {K : PySem.W.Frag} {mg : Str → Option Value} {base : Heap}
def lenK (kd : Nat) : List V → Nat := if kd = 4 then two else List.length
theorem Chp.ob {cs : Nat → Addr} {H : Hp} {x p : Addr} {kd n : Nat} {ws : List Nat} (o : Chp cs H x p kd n ws) : Ob (cs kd) H x p (vN ws) (kext kd n) := by
  obtain ⟨dx, e⟩ := o.ex
  refine ⟨⟨dx, _, e⟩, o.ls, ?_⟩
  unfold kext
  split
  · exact .inr ⟨_, rfl⟩
  · exact .inl rfl
theorem lk_vN {H : Hp} {a b : Addr} {ws : List Nat} (ha : H a = some (.tup (vN ws))) (hb : H b = some (.tup (vN ws))) (hz : ws.length ≤ 4096) : Lk H 1 (.ref a) (.ref b) := by
  refine .seq (t := true) ha hb rfl (by rw [vN_length]; exact Nat.le_trans hz (by decide)) fun i x y h1 h2 => ?_
  rw [h1] at h2
  obtain rfl := Option.some.inj h2
  unfold vN at h1
  rw [List.getElem?_map] at h1
  obtain ⟨n, _, rfl⟩ := Option.map_eq_some_iff.mp h1
  exact .int n
def spR26 (cs : Nat → Addr) (kd : Nat) : Sp := fun vs H Q _ => ∃ x p, ∃ (n c : Nat) (ws : List Nat), vs = [.ref x, .int (c : Int)] ∧ Chp cs H x p kd n ws ∧ Kd kd n ws ∧ c < ksize kd ws ∧ ∀ H', H' p = some (.lst (vN (krd kd ws c))) → (∀ b, b ≠ p → H' b = H b) → Q (.int (klk kd ws c : Int)) H'
def spL26 (cs : Nat → Addr) (kd : Nat) : Sp := fun vs H Q _ => ∃ x p, ∃ (n c : Nat) (ws : List Nat), vs = [.ref x, .int (c : Int)] ∧ Chp cs H x p kd n ws ∧ Kd kd n ws ∧ c < ksize kd ws ∧ Q (.int (klk kd ws c : Int)) H
theorem l26_plain {cs : Nat → Addr} {kd : Nat} (hk : kd ≠ 4) : ∀ vs H Q E, spL26 cs kd vs H Q E → spLook (cs kd) vs H Q E := by
  rintro vs H Q E ⟨x, p, n, c, ws, rfl, o, kk, hc, q⟩
  obtain ⟨dx, e⟩ := o.ex
  unfold ksize at hc
  unfold klk at q
  rw [if_neg hk] at hc q
  unfold kext at e
  rw [if_neg hk] at e
  have hg : ws[c]? = some (ws.getD c 0) := by rw [List.getD_eq_getElem?_getD, List.getElem?_eq_getElem hc]; rfl
  exact ⟨x, p, vN ws, [], c, _, rfl, ⟨⟨dx, _, e⟩, o.ls, .inl rfl⟩, by rw [vN_length]; have := kk.ln; omega, vN_at' hg, q⟩
theorem l26_pipe {cs : Nat → Addr} : ∀ vs H Q E, spL26 cs 4 vs H Q E → spPLook (cs 4) vs H Q E := by
  rintro vs H Q E ⟨x, p, n, c, ws, rfl, o, kk, hc, q⟩
  refine ⟨x, p, n, ws, (c : Int), rfl, ⟨o.ex, o.ls⟩, ?_⟩
  have hc : c < 2 := hc
  rcases (show c = 0 ∨ c = 1 by omega) with rfl | rfl
  · exact .inl ⟨rfl, q⟩
  · exact .inr ⟨rfl, q⟩
theorem r26_plain {cs : Nat → Addr} {kd : Nat} (hk : kd = 0 ∨ kd = 1 ∨ kd = 2) : ∀ vs H Q E, spR26 cs kd vs H Q E → spLook (cs kd) vs H Q E := by
  rintro vs H Q E ⟨x, p, n, c, ws, rfl, o, kk, hc, q⟩
  refine l26_plain (by omega) _ H Q E ⟨x, p, n, c, ws, rfl, o, kk, hc, q H ?_ fun b hb => rfl⟩
  rw [o.ls]
  unfold krd
  rw [if_neg (by omega), if_neg (fun z => by omega)]
theorem r26_meter {cs : Nat → Addr} : ∀ vs H Q E, spR26 cs 3 vs H Q E → spMetR (cs 3) vs H Q E := by
  rintro vs H Q E ⟨x, p, n, c, ws, rfl, o, kk, hc, q⟩
  obtain ⟨dx, e⟩ := o.ex
  obtain ⟨v, rfl⟩ : ∃ v, ws = [v] := by
    have := kk.l3 rfl
    cases ws with
    | nil => cases this
    | cons a b => cases b with | nil => exact ⟨a, rfl⟩ | cons _ _ => cases this
  obtain rfl : c = 0 := by have : c < 1 := hc; omega
  refine ⟨x, p, [], (v : Int), rfl, ⟨⟨dx, _, e⟩, o.ls, .inl rfl⟩, q _ ?_ fun b hb => upd_ne hb⟩
  rw [show ((v : Int) + 1) % 256 = (((v + 1) % 256 : Nat) : Int) by omega]
  exact upd_same
theorem r26_pipe {cs : Nat → Addr} : ∀ vs H Q E, spR26 cs 4 vs H Q E → spPRead (cs 4) vs H Q E := by
  rintro vs H Q E ⟨x, p, n, c, ws, rfl, o, kk, hc, q⟩
  refine ⟨x, p, n, ws, (c : Int), rfl, ⟨o.ex, o.ls⟩, ?_⟩
  have hc : c < 2 := hc
  rcases (show c = 0 ∨ c = 1 by omega) with rfl | rfl
  · exact .inl ⟨rfl, q _ upd_same fun b hb => upd_ne hb⟩
  · exact .inr ⟨rfl, q _ o.ls fun b hb => rfl⟩
/-! what a builder is handed, what it makes -/
def heldOf (kd n : Nat) (ws : List Nat) : List Nat := if kd = 4 then n :: ws else ws
def spBuild (cs : Nat → Addr) (kd : Nat) : Sp := fun vs H Q _ => ∃ (l : Addr) (n : Nat) (ws : List Nat), vs = [.ref l] ∧ Kd kd n ws ∧ (kd ≠ 4 → n = 0) ∧ (kd = 2 ∨ kd = 3 → ws.length = 1) ∧ H l = some (.lst (vN (heldOf kd n ws))) ∧ ∀ (x p : Addr) (H' : Hp), Chp cs H' x p kd n ws → H p = none → Same H H' → Q (.ref x) H'
theorem okfixed_of {f : Addr} {cs : Nat → Addr} {fd : FuncData} (F : Fun K "fixed_of" "fixed_of" sfixed_of f fd) (T : Blt mg) (GMFixed_1 : Mak P w K mg base 3 "Fixed" (cs 1) [] (dP []) (spMkFH (cs 1))) : FnOk P w K mg base CX0 5 f fd ["held"] (spBuild cs 1) := by
  refine F.ok scfixed_of (fun vs H Q E h => ?_) (fun cdv A outer s H vs Q E hr h => ?_)
  · obtain ⟨l, n, ws, rfl, _⟩ := h; rfl
  · obtain ⟨l, n, ws, rfl, kk, hn, _, el, k⟩ := h
    obtain rfl := hn (by decide)
    refine ⟨_, (pss_one (ps_ret (pe_mak GMFixed_1 (hr.mono (by first | decide | omega)) rfl (pa_cons (pv 0) pa_nil)))), ?rd⟩
    refine ⟨_, rfl, fun x dx hx hdx _ => ⟨x, dx, l, ws, rfl, same_mk hx hdx _ _ el, kk.l1 (by decide), kk.ln, kk.w5, upd_same, fun p H' hp ea la kp => ⟨rfl, ?_⟩⟩⟩
    exact k x p H' ⟨ea, la⟩ (mk_free hx hdx hp) (mk_same hx hdx kp)
end
abbrev slatch_of : Stmt := top 32
theorem sclatch_of : FnScope ["held"] ["held"] (defScope slatch_of) := ⟨rfl, rfl, rfl, by decide +kernel, rfl, by decide +kernel, by decide +kernel⟩
section
variable {P : Program} {w : World} {K : PySem.W.Frag} {mg : Str → Option Value} {base : Heap}
theorem oklatch_of {f : Addr} {cs : Nat → Addr} {fd : FuncData} (F : Fun K "latch_of" "latch_of" slatch_of f fd) (T : Blt mg) (Gonly_word : Cal P w K mg base 1 "only_word" ["held"] spOnlyW) (GMLatch_1 : Mak P w K mg base 3 "Latch" (cs 2) [] (dP []) (spMk1H (cs 2) "latch")) : FnOk P w K mg base CX0 5 f fd ["held"] (spBuild cs 2) := by
  refine F.ok sclatch_of (fun vs H Q E h => ?_) (fun cdv A outer s H vs Q E hr h => ?_)
  · obtain ⟨l, n, ws, rfl, _⟩ := h; rfl
  · obtain ⟨l, n, ws, rfl, kk, hn, h1, el, k⟩ := h
    obtain rfl := hn (by decide)
    refine ⟨_, (pss_one (ps_ret (pe_mak GMLatch_1 (hr.mono (by first | decide | omega)) rfl (pa_cons (pe_cal Gonly_word (hr.mono (by first | decide | omega)) rfl (pa_cons (pv 0) pa_nil)) pa_nil)))), ?rd⟩
    obtain ⟨v, rfl⟩ : ∃ v, ws = [v] := by
      have h1 := h1 (by decide)
      match ws, h1 with
      | [v], _ => exact ⟨v, rfl⟩
    have hv := kk.w5 v (List.mem_singleton.mpr rfl)
    refine ⟨_, rfl, l, v, rfl, el, fun x dx hx hdx _ => ⟨x, dx, (v : Int), rfl, by omega, by omega, upd_same, fun p H' hp ea la kp => ⟨rfl, ?_⟩⟩⟩
    exact k x p H' ⟨ea, la⟩ (mk_free hx hdx hp) (mk_same hx hdx kp)
end
abbrev smeter_of : Stmt := top 33
theorem scmeter_of : FnScope ["held"] ["held"] (defScope smeter_of) := ⟨rfl, rfl, rfl, by decide +kernel, rfl, by decide +kernel, by decide +kernel⟩
section
variable {P : Program} {w : World} {K : PySem.W.Frag} {mg : Str → Option Value} {base : Heap}
theorem okmeter_of {f : Addr} {cs : Nat → Addr} {fd : FuncData} (F : Fun K "meter_of" "meter_of" smeter_of f fd) (T : Blt mg) (Gonly_word : Cal P w K mg base 1 "only_word" ["held"] spOnlyW) (GMMeter_1 : Mak P w K mg base 3 "Meter" (cs 3) [] (dP []) (spMk1H (cs 3) "meter")) : FnOk P w K mg base CX0 5 f fd ["held"] (spBuild cs 3) := by
  refine F.ok scmeter_of (fun vs H Q E h => ?_) (fun cdv A outer s H vs Q E hr h => ?_)
  · obtain ⟨l, n, ws, rfl, _⟩ := h; rfl
  · obtain ⟨l, n, ws, rfl, kk, hn, h1, el, k⟩ := h
    obtain rfl := hn (by decide)
    refine ⟨_, (pss_one (ps_ret (pe_mak GMMeter_1 (hr.mono (by first | decide | omega)) rfl (pa_cons (pe_cal Gonly_word (hr.mono (by first | decide | omega)) rfl (pa_cons (pv 0) pa_nil)) pa_nil)))), ?rd⟩
    obtain ⟨v, rfl⟩ : ∃ v, ws = [v] := by
      have h1 := h1 (by decide)
      match ws, h1 with
      | [v], _ => exact ⟨v, rfl⟩
    have hv := kk.w5 v (List.mem_singleton.mpr rfl)
    refine ⟨_, rfl, l, v, rfl, el, fun x dx hx hdx _ => ⟨x, dx, (v : Int), rfl, by omega, by omega, upd_same, fun p H' hp ea la kp => ⟨rfl, ?_⟩⟩⟩
    exact k x p H' ⟨ea, la⟩ (mk_free hx hdx hp) (mk_same hx hdx kp)
end
abbrev sfilled_store : Stmt := top 29
theorem scfilled_store : FnScope ["held", "store", "cell", "word"] ["held"] (defScope sfilled_store) := ⟨rfl, rfl, rfl, by decide +kernel, rfl, by decide +kernel, by decide +kernel⟩
section
variable {P : Program} {w : World} {K : PySem.W.Frag} {mg : Str → Option Value} {base : Heap}
theorem set_step {ws : List Nat} {i v : Nat} (h : ws[i]? = some v) : (ws.take i ++ List.replicate (ws.length - i) 0).set i v = ws.take (i + 1) ++ List.replicate (ws.length - (i + 1)) 0 := by
  have hi := (List.getElem?_eq_some_iff.mp h).1
  have e : ws.length - i = (ws.length - (i + 1)) + 1 := by omega
  have lt : (ws.take i).length = i := by rw [List.length_take]; omega
  rw [List.set_append_right _ _ (by omega), lt, Nat.sub_self, e, List.replicate_succ, List.set_cons_zero, List.take_succ, h, List.append_assoc]
  rfl
theorem okfilled_store {f : Addr} {cs : Nat → Addr} {fd : FuncData} (F : Fun K "filled_store" "filled_store" sfilled_store f fd) (T : Blt mg) (GMStore_1 : Mak P w K mg base 3 "Store" (cs 0) [] (dP [.int 0]) (spMkSH (cs 0))) (MW : ∀ kd, kd < 5 → Mth P w K mg base 5 (cs kd) "write" [] (fun vs _ => vs) (spW25 cs kd)) : FnOk P w K mg base CX0 6 f fd ["held"] (spBuild cs 0) := by
  refine F.ok scfilled_store (fun vs H Q E h => ?_) (fun cdv A outer s H vs Q E hr h => ?_)
  · obtain ⟨l, n, ws, rfl, _⟩ := h; rfl
  · obtain ⟨l, n, ws, rfl, kk, hn, _, el, k⟩ := h
    obtain rfl := hn (by decide)
    refine ⟨_, (pss_cons (ps_set (i := 1) scfilled_store.nd rfl (Or.inl rfl) (pe_mak GMStore_1 (hr.mono (by first | decide | omega)) rfl (pa_cons (pe_callB call_len_seq (by rfl) T.len PySem.boot_len (pa_cons (pv 0) pa_nil)) pa_nil)))
      (pss_cons (ps_for PassesOwn.never rfl (pi_enum rfl T.enumerate (pa_cons (pv 0) pa_nil)) (pg_tup rfl (pgs_cons (pg_name (i := 2) scfilled_store.nd rfl (Or.inl rfl)) (pgs_cons (pg_name (i := 3) scfilled_store.nd rfl (Or.inl rfl)) pgs_nil)))
      (pss_one (ps_expr (pe_mth 5 ⟨rfl, rfl, rfl, rfl, rfl⟩ (hr.mono (by first | decide | omega)) (pv 1) (pa_cons (pv 2) (pa_cons (pv 3) pa_nil))))))
      (pss_one (ps_ret (pv 1))))), ?rd⟩
    have l1 := kk.l1 (by decide)
    have ln := kk.ln
    have e0 : (vN (heldOf 0 0 ws)).length = ws.length := vN_length _
    have el : H l = some (.lst (vN ws)) := el
    refine ⟨_, rfl, l, _, rfl, .inl (SqL.of el), fun x dx hx hdx _ => ⟨x, dx, ws.length, 0, ?_, l1, ln, by decide, by decide, upd_same, fun p Xa hp ea la kp => ⟨rfl, ?_⟩⟩⟩
    · show [V.ref x, V.int ((vN ws).length : Int), V.int 0] = _
      rw [vN_length]
    have sa := mk_same hx hdx kp
    have fp := mk_free hx hdx hp
    have np : ∀ {b : Addr} {o : HO}, H b = some o → b ≠ p := fun {b o} e => ne_of_none e fp
    have nxp : x ≠ p := fun z => by
      obtain ⟨d0, ea⟩ := ea
      rw [z, la] at ea; cases ea
    refine ⟨_, rfl, l, rfl, ⟨_, SqL.of (sa _ _ el)⟩, ?_⟩
    refine for_enum (K := K) (a := l) (xs := vN ws) (fun i σ Y => (∃ v2 v3 : Option V, σ = [some (.ref l), some (.ref x), v2, v3]) ∧ Chp cs Y x p 0 0 (ws.take i ++ List.replicate (ws.length - i) 0) ∧ Same H Y) ⟨⟨_, _, rfl⟩, ⟨ea, ?_⟩, sa⟩ (fun i σ Y hi ⟨_, _, sY⟩ => SqL.of (sY _ _ el)) ?_ ?_
    · rw [la, List.take_zero, List.nil_append, Nat.sub_zero]
      unfold vN
      rw [List.map_replicate]; rfl
    · rintro i y T0 σ Y hy hT ⟨⟨v2, v3, rfl⟩, o, sY⟩
      have hi : i < ws.length := by
        have := (List.getElem?_eq_some_iff.mp hy).1
        rwa [vN_length] at this
      obtain ⟨v, hv, rfl⟩ : ∃ v, ws[i]? = some v ∧ y = .int (v : Int) := by
        unfold vN at hy
        rw [List.getElem?_map] at hy
        obtain ⟨v, h1, h2⟩ := Option.map_eq_some_iff.mp hy
        exact ⟨v, h1, h2.symm⟩
      refine g_pair ?_
      have sT : Same Y (upd Y T0 (.tup [.int (i : Int), .int (v : Int)])) := same_new hT
      have o1 := o.same sT
      obtain ⟨d1, ex⟩ := o1.ex
      have hv5 := kk.w5 v (List.mem_of_getElem? hv)
      have kd1 : Kd 0 0 (ws.take i ++ List.replicate (ws.length - i) 0) := ⟨by decide, (fun z hz => ?_), ?_, (fun _ => ?_), (fun h => by cases h), (fun h => by cases h), by decide⟩
      · refine ⟨_, rfl, x, cs 0, d1, _, _, _, rfl, ex, MW 0 (by decide), rfl, _, rfl, _, rfl, x, p, 0, i, v, _, rfl, o1, kd1, ?_, hv5, fun Y2 e2 k2 => ?_⟩
        · show i < (ws.take i ++ List.replicate (ws.length - i) 0).length
          rw [List.length_append, List.length_take, List.length_replicate]; omega
        refine ⟨⟨_, _, rfl⟩, ⟨⟨d1, by rw [k2 x nxp]; exact ex⟩, ?_⟩, fun b o e => by rw [k2 b (np e)]; exact sT _ _ (sY _ _ e)⟩
        rw [e2]
        show some (HO.lst (vN ((ws.take i ++ List.replicate (ws.length - i) 0).set i v))) = _
        rw [set_step hv]
      · rcases List.mem_append.mp hz with h | h
        · exact kk.w5 z (List.mem_of_mem_take h)
        · rw [List.eq_of_mem_replicate h]; decide
      · rw [List.length_append, List.length_take, List.length_replicate]; omega
      · rw [List.length_append, List.length_take, List.length_replicate]; omega
    · rintro σ Y ⟨⟨v2, v3, rfl⟩, o, sY⟩
      rw [vN_length, List.take_of_length_le (Nat.le_refl _), Nat.sub_self, List.replicate_zero, List.append_nil] at o
      exact ⟨_, rfl, k x p Y o fp sY⟩
end
abbrev sfilled_pipe : Stmt := top 34
theorem scfilled_pipe : FnScope ["held", "room", "words", "pipe", "word"] ["held"] (defScope sfilled_pipe) := ⟨rfl, rfl, rfl, by decide +kernel, rfl, by decide +kernel, by decide +kernel⟩
section
variable {P : Program} {w : World} {K : PySem.W.Frag} {mg : Str → Option Value} {base : Heap}
theorem okfilled_pipe {f : Addr} {cs : Nat → Addr} {fd : FuncData} (F : Fun K "filled_pipe" "filled_pipe" sfilled_pipe f fd) (T : Blt mg) (GMPipe_1 : Mak P w K mg base 3 "Pipe" (cs 4) [] (dP []) (spMkP (cs 4))) (MW : ∀ kd, kd < 5 → Mth P w K mg base 5 (cs kd) "write" [] (fun vs _ => vs) (spW25 cs kd)) : FnOk P w K mg base CX0 6 f fd ["held"] (spBuild cs 4) := by
  refine F.ok scfilled_pipe (fun vs H Q E h => ?_) (fun cdv A outer s H vs Q E hr h => ?_)
  · obtain ⟨l, n, ws, rfl, _⟩ := h; rfl
  · obtain ⟨l, n, ws, rfl, kk, hn, _, el, k⟩ := h
    refine ⟨_, (pss_cons (ps_if (pt_not (pt_truth (pv 0) (fun _ => rfl))) (pss_one ps_never) pss_nil)
      (pss_cons (ps_asg (pv 0) (pg_star rfl (pgs_cons (pg_name (i := 1) scfilled_pipe.nd rfl (Or.inl rfl)) (pgs_star (pg_name (i := 2) scfilled_pipe.nd rfl (Or.inl rfl)) pgs_nil))))
      (pss_cons (ps_if (pt_cmpR op_gt (pe_callB call_len_seq (by rfl) T.len PySem.boot_len (pa_cons (pv 2) pa_nil)) (pv 1) (nomark _)) (pss_one ps_never) pss_nil)
      (pss_cons (ps_set (i := 3) scfilled_pipe.nd rfl (Or.inl rfl) (pe_mak GMPipe_1 (hr.mono (by first | decide | omega)) rfl (pa_cons (pv 1) pa_nil)))
      (pss_cons (ps_for PassesOwn.never rfl (pi_list (pv 2)) (pg_name (i := 4) scfilled_pipe.nd rfl (Or.inl rfl))
      (pss_one (ps_expr (pe_mth 5 ⟨rfl, rfl, rfl, rfl, rfl⟩ (hr.mono (by first | decide | omega)) (pv 3) (pa_cons pe_int (pa_cons (pv 4) pa_nil))))))
      (pss_one (ps_ret (pv 3)))))))), ?rd⟩
    have hpi := kk.pi rfl
    have n2 := kk.n2
    have el : H l = some (.lst (.int (n : Int) :: vN ws)) := el
    refine ⟨_, rfl, true, .inl ⟨_, SqL.of el, rfl⟩, iteF (next_of ?_)⟩
    refine ⟨_, rfl, l, _, _, rfl, SqL.of el, by rw [vN_length]; omega, fun D hD => ⟨_, _, rfl, _, _, rfl, rfl, ?_⟩⟩
    have sD : Same H (upd H D (.lst (vN ws))) := same_new hD
    refine ⟨_, rfl, D, _, rfl, .inl (SqL.of upd_same), _, rfl, _, _, rfl, rfl, _, rfl, iteD0 (decide_eq_false (by rw [vN_length]; omega)) (next_of ?_)⟩
    refine ⟨_, rfl, fun x dx hx hdx _ => ⟨x, dx, n, rfl, hpi.2, n2, upd_same, fun p Xa hp o0 kp => ⟨rfl, ?_⟩⟩⟩
    have sa := mk_same hx hdx kp
    have fp0 := mk_free hx hdx hp
    have np : ∀ {b : Addr} {o : HO}, (upd H D (.lst (vN ws))) b = some o → b ≠ p := fun {b o} e => ne_of_none e fp0
    have fp : H p = none := by
      cases e : H p with
      | none => rfl
      | some o => rw [sD _ _ e] at fp0; cases fp0
    have c0 : Chp cs Xa x p 4 n [] := ⟨o0.ex, o0.ls⟩
    have nxp := c0.ne
    refine ⟨_, rfl, D, rfl, ⟨_, SqL.of (sa _ _ upd_same)⟩, ?_⟩
    refine for_list (K := K) (a := D) (xs := vN ws) (fun i σ Y => (∃ v4 : Option V, σ = [some (.ref l), some (.int (n : Int)), some (.ref D), some (.ref x), v4]) ∧ Chp cs Y x p 4 n (ws.take i) ∧ Same (upd H D (.lst (vN ws))) Y) ⟨⟨_, rfl⟩, c0, sa⟩ (fun i σ Y hi ⟨_, _, sY⟩ => SqL.of (sY _ _ upd_same)) ?_ ?_
    · rintro i y σ Y hy ⟨⟨v4, rfl⟩, o, sY⟩
      have hi : i < ws.length := by
        have := (List.getElem?_eq_some_iff.mp hy).1
        rwa [vN_length] at this
      obtain ⟨v, hv, rfl⟩ : ∃ v, ws[i]? = some v ∧ y = .int (v : Int) := by
        unfold vN at hy
        rw [List.getElem?_map] at hy
        obtain ⟨v, h1, h2⟩ := Option.map_eq_some_iff.mp hy
        exact ⟨v, h1, h2.symm⟩
      obtain ⟨d1, ex⟩ := o.ex
      have tl : (ws.take i).length = i := by rw [List.length_take]; omega
      have kd1 : Kd 4 n (ws.take i) := ⟨by decide, (fun z hz => kk.w5 z (List.mem_of_mem_take hz)), by rw [tl]; have := kk.ln; omega, (fun h => absurd rfl h), (fun h => by cases h), (fun _ => ⟨by omega, hpi.2⟩), n2⟩
      refine ⟨_, rfl, x, cs 4, d1, _, _, _, rfl, ex, MW 4 (by decide), rfl, _, rfl, x, p, n, 0, v, _, rfl, o, kd1, (show 0 < 2 by decide), kk.w5 v (List.mem_of_getElem? hv), fun Y2 e2 k2 => ?_⟩
      refine ⟨⟨_, rfl⟩, ⟨⟨d1, by rw [k2 x nxp]; exact ex⟩, ?_⟩, fun b o e => by rw [k2 b (np e)]; exact sY _ _ e⟩
      rw [e2]
      have e3 : kwr 4 n (ws.take i) 0 v = ws.take (i + 1) := by
        unfold kwr
        rw [if_pos rfl, if_neg (by decide), if_pos (by omega), List.take_succ, hv]; rfl
      rw [e3]
    · rintro σ Y ⟨⟨v4, rfl⟩, o, sY⟩
      rw [vN_length, List.take_of_length_le (Nat.le_refl _)] at o
      exact ⟨_, rfl, k x p Y o fp (sD.trans sY)⟩
end
abbrev sread_chip : Stmt := top 36
theorem scread_chip : FnScope ["text", "kind", "words", "build", "held"] ["text"] (defScope sread_chip) := ⟨rfl, rfl, rfl, by decide +kernel, rfl, by decide +kernel, by decide +kernel⟩
section
variable {P : Program} {w : World} {K : PySem.W.Frag} {mg : Str → Option Value} {base : Heap}
def kparts (kd n : Nat) (ws : List Nat) : List Str := kname kd :: (heldOf kd n ws).map fig2
def KINDSOF (fb : Nat → Addr) : List (Key × V) := [(.inr "store", .ref (fb 0)), (.inr "fixed", .ref (fb 1)), (.inr "latch", .ref (fb 2)), (.inr "meter", .ref (fb 3)), (.inr "pipe", .ref (fb 4))]
def spReadChip (cs : Nat → Addr) : Sp := fun vs H Q _ => ∃ (kd n : Nat) (ws : List Nat), vs = [.str (ktext kd n ws)] ∧ Kd kd n ws ∧ (kd ≠ 4 → n = 0) ∧ (kd = 2 ∨ kd = 3 → ws.length = 1) ∧ ∀ (x p : Addr) (H' : Hp), Chp cs H' x p kd n ws → H p = none → Same H H' → Q (.ref x) H'
theorem str_len (x : Str) : x.length = x.cps.toList.length := by simp [PySem.Str.length]
theorem ktext_eq {kd n : Nat} {ws : List Nat} : ktext kd n ws = PySem.Str.join ⟨#[32]⟩ (kparts kd n ws) := by
  unfold ktext
  rw [txt_join]
  by_cases h : kd = 4
  · subst h
    show PySem.Str.join ⟨#[32]⟩ (phead n :: ws.map fig2) = PySem.Str.join ⟨#[32]⟩ (("pipe" : Str) :: fig2 n :: ws.map fig2)
    apply str_inj
    rw [join_two]
    have e : (phead n).cps.toList = ("pipe" : Str).cps.toList ++ 32 :: (fig2 n).cps.toList := by
      unfold phead
      rw [str_app, str_app]; rfl
    cases ws with
    | nil => exact e
    | cons w r =>
      show (PySem.Str.join ⟨#[32]⟩ (phead n :: fig2 w :: r.map fig2)).cps.toList = _ ++ 32 :: (PySem.Str.join ⟨#[32]⟩ (fig2 n :: fig2 w :: r.map fig2)).cps.toList
      rw [join_two, join_two, e, List.append_assoc]; rfl
  · have e1 : khead kd n = kname kd := by unfold khead; rw [if_neg h]
    have e2 : heldOf kd n ws = ws := by unfold heldOf; rw [if_neg h]
    unfold kparts
    rw [e1, e2]; rfl
theorem six_blank : ∀ k : Fin 16, (six1 k.val == 32) = false := by decide +kernel
theorem fig_free {n : Nat} (h : n < 256) : 32 ∉ (fig2 n).cps.toList := fun hm => by
  have e : (fig2 n).cps.toList = [six1 (n / 16), six1 (n % 16)] := rfl
  rw [e] at hm
  have h1 := six_blank ⟨n / 16, by omega⟩
  have h2 := six_blank ⟨n % 16, by omega⟩
  rcases List.mem_cons.mp hm with q | q
  · rw [← q] at h1; exact absurd h1 (by decide)
  · rw [← List.mem_singleton.mp q] at h2; exact absurd h2 (by decide)
theorem kname_free {kd : Nat} (h : kd < 5) : 32 ∉ (kname kd).cps.toList := by
  rcases (show kd = 0 ∨ kd = 1 ∨ kd = 2 ∨ kd = 3 ∨ kd = 4 by omega) with rfl | rfl | rfl | rfl | rfl <;> decide
theorem held_le {kd n : Nat} {ws : List Nat} (k : Kd kd n ws) : ∀ v ∈ heldOf kd n ws, v < 256 := by
  intro v hv
  unfold heldOf at hv
  split at hv
  · rcases List.mem_cons.mp hv with rfl | h
    · have := k.n2; omega
    · have := k.w5 v h; omega
  · have := k.w5 v hv; omega
theorem held_len {kd n : Nat} {ws : List Nat} (k : Kd kd n ws) : (heldOf kd n ws).length ≤ 4097 := by
  have := k.ln
  unfold heldOf
  split
  · rw [List.length_cons]; omega
  · omega
theorem kparts_free {kd n : Nat} {ws : List Nat} (k : Kd kd n ws) : ∀ p ∈ kparts kd n ws, 32 ∉ p.cps.toList := by
  intro p hp
  rcases List.mem_cons.mp hp with rfl | h
  · exact kname_free k.k5
  · obtain ⟨v, hv, rfl⟩ := List.mem_map.mp h
    exact fig_free (held_le k v hv)
theorem join_len : ∀ ps : List Str, (∀ p ∈ ps, p.length ≤ 5) → (PySem.Str.join ⟨#[32]⟩ ps).length ≤ 6 * ps.length
  | [], _ => Nat.zero_le _
  | [x], h => by
    have := h x (List.mem_singleton.mpr rfl)
    show x.length ≤ 6 * 1; omega
  | x :: y :: r, h => by
    have h1 := h x (List.mem_cons_self ..)
    have ih := join_len (y :: r) fun p hp => h p (List.mem_cons_of_mem _ hp)
    rw [str_len] at ih h1 ⊢
    rw [join_two, List.length_append, List.length_cons, List.length_cons]
    omega
theorem ktext_len {kd n : Nat} {ws : List Nat} (k : Kd kd n ws) : (ktext kd n ws).length ≤ 30000 := by
  rw [ktext_eq]
  refine Nat.le_trans (join_len _ fun p hp => ?_) ?_
  · rcases List.mem_cons.mp hp with rfl | h
    · have := k.k5
      rcases (show kd = 0 ∨ kd = 1 ∨ kd = 2 ∨ kd = 3 ∨ kd = 4 by omega) with rfl | rfl | rfl | rfl | rfl <;> decide
    · obtain ⟨v, hv, rfl⟩ := List.mem_map.mp h
      show 2 ≤ 5; decide
  · have := held_len k
    show 6 * ((heldOf kd n ws).map fig2).length.succ ≤ 30000
    rw [List.length_map]; omega
theorem kinds_at {fb : Nat → Addr} {kd : Nat} (h : kd < 5) : valV (KINDSOF fb) (.inr (kname kd)) = some (.ref (fb kd)) := by
  rcases (show kd = 0 ∨ kd = 1 ∨ kd = 2 ∨ kd = 3 ∨ kd = 4 by omega) with rfl | rfl | rfl | rfl | rfl <;> rfl
theorem okread_chip {f aK : Addr} {cs fb : Nat → Addr} {fd : FuncData} (F : Fun K "read_chip" "read_chip" sread_chip f fd) (T : Blt mg) (GKINDS : mg "KINDS" = some (.ref aK)) (DKINDS : DicK P w K aK (KINDSOF fb)) (Gread_word : Cal P w K mg base 4 "read_word" ["text"] spReadWord)
    (GB : ∀ kd, kd < 5 → ∃ fd', PySem.W.keepIn K (.ref (fb kd)) = true ∧ FnOk P w K mg base CX0 6 (fb kd) fd' ["held"] (spBuild cs kd) ∧ Binds K fd' ["held"] []) : FnOk P w K mg base CX0 7 f fd ["text"] (spReadChip cs) := by
  refine F.ok scread_chip (fun vs H Q E h => ?_) (fun cdv A outer s H vs Q E hr h => ?_)
  · obtain ⟨kd, n, ws, rfl, _⟩ := h; rfl
  · obtain ⟨kd, n, ws, rfl, kk, hn, h1, k⟩ := h
    refine ⟨_, (pss_cons (ps_asg (pe_bm PySem.F.plainAttrs_str PySem.F.slot_str_split PySem.F.type_str_split mt_split (pv 0) (pa_cons pe_str pa_nil)) (pg_star rfl (pgs_cons (pg_name (i := 1) scread_chip.nd rfl (Or.inl rfl)) (pgs_star (pg_name (i := 2) scread_chip.nd rfl (Or.inl rfl)) pgs_nil))))
      (pss_cons (ps_set (i := 3) scread_chip.nd rfl (Or.inl rfl) (pe_kget rfl GKINDS DKINDS (pv 1) ⟨rfl, rfl, rfl, rfl⟩))
      (pss_cons (ps_if (pt_cmp (pc_isN (pv 3))) (pss_one ps_never) pss_nil)
      (pss_cons (ps_setComp (i := 4) (Nc := ["word"]) [none] scread_chip.nd rfl rfl rfl (compOk_of (by rfl)) (pi_list (pv 2)) (fun _ _ _ _ _ => (pg_name (i := 0) (show (["word"] : List Str).Nodup by decide +kernel) rfl (Or.inl rfl))) (fun _ _ _ _ _ => pf_nil) (fun _ _ _ _ _ => (pe_cal Gread_word (hr.mono (by first | decide | omega)) rfl (pa_cons (pv 0) pa_nil))))
      (pss_one (ps_tryN (pss_one (ps_ret (pe_calV 6 ⟨rfl, rfl, rfl, rfl, rfl⟩ (hr.mono (by first | decide | omega)) (pv 3) (pa_cons (pv 4) pa_nil)))))))))), ?rd⟩
    have spl : Txt.split (ktext kd n ws) (" " : Str) = kparts kd n ws := by
      rw [ktext_eq]
      exact split_join 32 _ (by unfold kparts; simp) (kparts_free kk)
    have hl := held_len kk
    obtain ⟨fd', hk, FK, hb⟩ := GB kd kk.k5
    refine ⟨_, rfl, rfl, _, _, rfl, rfl, rfl, ?_, fun D0 h0 => ?_⟩
    · have := ktext_len kk
      rw [sizeLine_eq]; omega
    rw [spl]
    have s0 : Same H (upd H D0 (.lst ((kparts kd n ws).map V.str))) := same_new h0
    refine ⟨D0, .str (kname kd), ((heldOf kd n ws).map fig2).map V.str, rfl, SqL.of upd_same, by rw [List.length_map, List.length_map]; omega, fun D1 h1_ => ⟨_, _, rfl, _, _, rfl, rfl, ?_⟩⟩
    have s1 := s0.trans (same_new (o := .lst (((heldOf kd n ws).map fig2).map V.str)) h1_)
    refine ⟨_, rfl, .inr (kname kd), rfl, ?_⟩
    rw [kinds_at kk.k5]
    refine ⟨_, rfl, _, rfl, iteF (next_of ?_)⟩
    have eD : (upd (upd H D0 (.lst ((kparts kd n ws).map V.str))) D1 (.lst (((heldOf kd n ws).map fig2).map V.str))) D1 = some (.lst (((heldOf kd n ws).map fig2).map V.str)) := upd_same
    generalize upd (upd H D0 (.lst ((kparts kd n ws).map V.str))) D1 (.lst (((heldOf kd n ws).map fig2).map V.str)) = B at s1 eD ⊢
    refine ⟨_, rfl, D1, rfl, ⟨_, SqL.of eD⟩, ?_⟩
    refine comp_list (K := K) (a := D1) (xs := ((heldOf kd n ws).map fig2).map V.str) (fun i ys σ Y => (∃ v0 : Option V, σ = [v0]) ∧ ys = vN ((heldOf kd n ws).take i) ∧ Same B Y) (by rw [List.length_map, List.length_map, sizeLine_eq]; omega) ⟨⟨none, rfl⟩, rfl, Same.refl _⟩ ?_ ?_ ?_
    · rintro i ys σ Y hi ⟨_, rfl, sY⟩
      exact ⟨SqL.of (sY _ _ eD), by rw [vN_length, List.length_take]; omega⟩
    · rintro i x ys σ Y hx ⟨⟨v0, rfl⟩, rfl, sY⟩
      rw [List.getElem?_map, List.getElem?_map] at hx
      obtain ⟨z, hz, rfl⟩ := Option.map_eq_some_iff.mp hx
      obtain ⟨v, hv, rfl⟩ := Option.map_eq_some_iff.mp hz
      refine ⟨_, rfl, v, held_le kk v (List.mem_of_getElem? hv), rfl, fun Y2 s2 => ⟨⟨_, rfl⟩, ?_, sY.trans s2⟩⟩
      rw [List.take_succ, hv]
      unfold vN
      rw [List.map_append]; rfl
    rintro ys σ Y ⟨_, rfl, sY⟩ D2 h2
    rw [List.length_map, List.length_map, List.take_of_length_le (Nat.le_refl _)]
    have sE := (s1.trans sY).trans (same_new (o := .lst (vN (heldOf kd n ws))) h2)
    refine ⟨_, rfl, fb kd, fd', ["held"], spBuild cs kd, rfl, hk, FK, hb, _, rfl, D2, n, ws, rfl, kk, hn, h1, upd_same, fun x p H' c fp s' => k x p H' c ?_ (sE.trans s')⟩
    cases e : H p with
    | none => rfl
    | some o => rw [sE _ _ e] at fp; cases fp
theorem kinds_mk {P : Program} {w : World} {K : PySem.W.Frag} {a : Addr} {ep : Nat} {h0 h1 h2 h3 h4 : Int} {t0 t1 t2 t3 t4 : Tok} {fb : Nat → Addr} (ns : (a == sysModules) = false)
    (l : K.lookup a = some ⟨.type "dict", none, .dict #[⟨h0, .str "store" t0, .ref (fb 0)⟩, ⟨h1, .str "fixed" t1, .ref (fb 1)⟩, ⟨h2, .str "latch" t2, .ref (fb 2)⟩, ⟨h3, .str "meter" t3, .ref (fb 3)⟩, ⟨h4, .str "pipe" t4, .ref (fb 4)⟩] ep, #[]⟩)
    (e0 : hashStr w "store" = h0) (e1 : hashStr w "fixed" = h1) (e2 : hashStr w "latch" = h2) (e3 : hashStr w "meter" = h3) (e4 : hashStr w "pipe" = h4) : DicK P w K a (KINDSOF fb) := by
  refine ⟨ns, [(.inr "store", .ref (fb 0)), (.inr "fixed", .ref (fb 1)), (.inr "latch", .ref (fb 2)), (.inr "meter", .ref (fb 3)), (.inr "pipe", .ref (fb 4))], ?_, fun h hIn => ⟨_, _, _, hIn a _ l, ⟨rfl, rfl, rfl⟩, rfl, ?_, ?_, ?_⟩⟩
  · exact .cons ⟨rfl, rfl⟩ (.cons ⟨rfl, rfl⟩ (.cons ⟨rfl, rfl⟩ (.cons ⟨rfl, rfl⟩ (.cons ⟨rfl, rfl⟩ .nil))))
  · intro e he
    have he : e ∈ [(⟨h0, .str "store" t0, .ref (fb 0)⟩ : DictEntry), ⟨h1, .str "fixed" t1, .ref (fb 1)⟩, ⟨h2, .str "latch" t2, .ref (fb 2)⟩, ⟨h3, .str "meter" t3, .ref (fb 3)⟩, ⟨h4, .str "pipe" t4, .ref (fb 4)⟩] := by simpa using he
    rcases List.mem_cons.mp he with rfl | he
    · exact ⟨.inr "store", mixKind_str _ _ _ _, e0.symm⟩
    rcases List.mem_cons.mp he with rfl | he
    · exact ⟨.inr "fixed", mixKind_str _ _ _ _, e1.symm⟩
    rcases List.mem_cons.mp he with rfl | he
    · exact ⟨.inr "latch", mixKind_str _ _ _ _, e2.symm⟩
    rcases List.mem_cons.mp he with rfl | he
    · exact ⟨.inr "meter", mixKind_str _ _ _ _, e3.symm⟩
    · rw [List.mem_singleton.mp he]; exact ⟨.inr "pipe", mixKind_str _ _ _ _, e4.symm⟩
  · exact .cons (mixKind_str _ _ _ _) rfl (.cons (mixKind_str _ _ _ _) rfl (.cons (mixKind_str _ _ _ _) rfl (.cons (mixKind_str _ _ _ _) rfl (.cons (mixKind_str _ _ _ _) rfl .nil))))
  · show ([.inr "store", .inr "fixed", .inr "latch", .inr "meter", .inr "pipe"] : List Key).Nodup
    decide +kernel
end
abbrev s_law_size : Stmt := top 44
theorem sc_law_size : FnScope ["model"] ["model"] (defScope s_law_size) := ⟨rfl, rfl, rfl, by decide +kernel, rfl, by decide +kernel, by decide +kernel⟩
section
variable {P : Program} {w : World} {K : PySem.W.Frag} {mg : Str → Option Value} {base : Heap}
theorem ok_law_size {f : Addr} {fd : FuncData} (F : Fun K "_law_size" "_law_size" s_law_size f fd) (T : Blt mg) : FnOk P w K mg base CX0 1 f fd ["model"] spSize := by
  refine F.ok sc_law_size (fun vs H Q E h => ?_) (fun cdv A outer s H vs Q E hr h => ?_)
  · obtain ⟨m, row, kd, n, ws, rfl, _⟩ := h; rfl
  · obtain ⟨m, row, kd, n, ws, rfl, d, h5, k⟩ := h
    refine ⟨_, (pss_cons (ps_if (pt_cmpR op_eq (pe_ix ix_list (pv 0) pe_int (fun _ _ => rfl)) pe_str (nomark _)) (pss_one (ps_ret pe_int)) pss_nil)
      (pss_one (ps_ret (pe_callB call_len_seq (by rfl) T.len PySem.boot_len (pa_cons (pe_ix ix_list (pv 0) pe_int (fun _ _ => rfl)) pa_nil))))), ?rd⟩
    refine ⟨_, rfl, m, _, _, _, rfl, rfl, SqL.of d.at_, rfl, rfl, _, rfl, ?_⟩
    rw [show decide (V.str (kname kd) = V.str "pipe") = decide (kd = 4) from kname_eq (j := 4) h5 (by decide)]
    unfold ksize at k
    by_cases e : kd = 4
    · rw [decide_eq_true e]; rw [if_pos e] at k; exact iteT k
    · rw [decide_eq_false e]; rw [if_neg e] at k
      refine iteF ⟨_, rfl, m, _, _, _, rfl, rfl, SqL.of d.at_, rfl, row, _, rfl, .inl (SqL.of d.ls), ?_⟩
      rw [vN_length]; exact k
end
abbrev s_law_agree : Stmt := top 46
theorem sc_law_agree : FnScope ["place", "one", "other", "same", "copies", "at"] ["place", "one", "other"] (defScope s_law_agree) := ⟨rfl, rfl, rfl, by decide +kernel, rfl, by decide +kernel, by decide +kernel⟩
section
variable {P : Program} {w : World} {K : PySem.W.Frag} {mg : Str → Option Value} {base : Heap}
theorem six1_inj : ∀ a b : Fin 16, six1 a.val = six1 b.val → a = b := by decide +kernel
theorem fig_inj {a b : Nat} (ha : a < 256) (hb : b < 256) (h : fig2 a = fig2 b) : a = b := by
  have e := congrArg (fun x : Str => x.cps.toList) h
  have e : [six1 (a / 16), six1 (a % 16)] = [six1 (b / 16), six1 (b % 16)] := e
  have e1 := (List.cons.inj e).1
  have e2 := (List.cons.inj (List.cons.inj e).2).1
  have q1 := congrArg Fin.val (six1_inj ⟨a / 16, by omega⟩ ⟨b / 16, by omega⟩ e1)
  have q2 := congrArg Fin.val (six1_inj ⟨a % 16, by omega⟩ ⟨b % 16, by omega⟩ e2)
  have q1 : a / 16 = b / 16 := q1
  have q2 : a % 16 = b % 16 := q2
  omega
theorem map_fig_inj : ∀ {l m : List Nat}, (∀ v ∈ l, v < 256) → (∀ v ∈ m, v < 256) → l.map fig2 = m.map fig2 → l = m
  | [], [], _, _, _ => rfl
  | [], b :: m, _, _, h => by cases h
  | a :: l, [], _, _, h => by cases h
  | a :: l, b :: m, hl, hm, h => by
    obtain ⟨h1, h2⟩ := List.cons.inj h
    rw [fig_inj (hl a (List.mem_cons_self ..)) (hm b (List.mem_cons_self ..)) h1, map_fig_inj (fun v hv => hl v (List.mem_cons_of_mem _ hv)) (fun v hv => hm v (List.mem_cons_of_mem _ hv)) h2]
theorem ktext_inj {kd n kd' n' : Nat} {ws us : List Nat} (k : Kd kd n ws) (k' : Kd kd' n' us) (hn : kd ≠ 4 → n = 0) (hn' : kd' ≠ 4 → n' = 0) (h : ktext kd n ws = ktext kd' n' us) : kd = kd' ∧ n = n' ∧ ws = us := by
  have spl : ∀ {kd n : Nat} {ws : List Nat}, Kd kd n ws → Txt.split (ktext kd n ws) (" " : Str) = kparts kd n ws := fun {kd n ws} k => by
    rw [ktext_eq]
    exact split_join 32 _ (by unfold kparts; simp) (kparts_free k)
  have e := spl k
  rw [h, spl k'] at e
  obtain ⟨e1, e2⟩ := List.cons.inj e
  have ek : kd' = kd := of_decide_eq_true (by rw [← kname_eq k'.k5 k.k5]; exact decide_eq_true (congrArg V.str e1))
  subst ek
  have e3 := map_fig_inj (held_le k') (held_le k) e2
  unfold heldOf at e3
  by_cases h4 : kd' = 4
  · rw [if_pos h4, if_pos h4] at e3
    obtain ⟨a, b⟩ := List.cons.inj e3
    exact ⟨rfl, a.symm, b.symm⟩
  · rw [if_neg h4, if_neg h4] at e3
    exact ⟨rfl, by rw [hn h4, hn' h4], e3.symm⟩
theorem same_text {kd n kd' n' : Nat} {ws us : List Nat} (k : Kd kd n ws) (k' : Kd kd' n' us) (hn : kd ≠ 4 → n = 0) (hn' : kd' ≠ 4 → n' = 0) : (decide (khead kd n = khead kd' n') && decide (ws = us)) = decide (V.str (ktext kd n ws) = V.str (ktext kd' n' us)) := by
  rw [Bool.eq_iff_iff, Bool.and_eq_true, decide_eq_true_iff, decide_eq_true_iff, decide_eq_true_iff]
  constructor
  · rintro ⟨h1, rfl⟩
    unfold ktext
    rw [h1]
  · intro h
    obtain ⟨rfl, rfl, rfl⟩ := ktext_inj k k' hn hn' (V.str.inj h)
    exact ⟨rfl, rfl⟩
def spAgree (cs : Nat → Addr) : Sp := fun vs H Q _ => ∃ (x p y q : Addr) (pl kd n kd' n' : Nat) (ws us : List Nat), vs = [.int (pl : Int), .ref x, .ref y] ∧ Chp cs H x p kd n ws ∧ Chp cs H y q kd' n' us ∧ Kd kd n ws ∧ Kd kd' n' us ∧ (kd ≠ 4 → n = 0) ∧ (kd' ≠ 4 → n' = 0) ∧ (kd = 2 ∨ kd = 3 → ws.length = 1) ∧ (kd' = 2 ∨ kd' = 3 → us.length = 1) ∧ ∀ H', Same H H' → Q (.bl true) H'
theorem head_len {kd n : Nat} (h5 : kd < 5) : (khead kd n).length ≤ 1000 := by
  unfold khead
  split
  · show 0 + 5 + 2 ≤ 1000; decide
  · rcases (show kd = 0 ∨ kd = 1 ∨ kd = 2 ∨ kd = 3 ∨ kd = 4 by omega) with rfl | rfl | rfl | rfl | rfl <;> decide
theorem lk_none {kd n : Nat} {nm : Str} (hnm : nm = "write" ∨ nm = "read" ∨ nm = "state") (z : Str) (pp : Addr) : (("head", V.str z) :: ("held", V.ref pp) :: kext kd n : List (Str × V)).lookup nm = none := by
  unfold kext
  rcases hnm with rfl | rfl | rfl <;> split <;> rfl
theorem ok_law_agree {f : Addr} {cs : Nat → Addr} {fd : FuncData} (F : Fun K "_law_agree" "_law_agree" s_law_agree f fd) (T : Blt mg) (G_law_alike : Cal P w K mg base 2 "_law_alike" ["found", "due"] (spAlike 1)) (Gread_chip : Cal P w K mg base 7 "read_chip" ["text"] (spReadChip cs))
    (MS : ∀ kd, kd < 5 → Mth P w K mg base 1 (cs kd) "state" [] (fun vs _ => vs) (spState (cs kd))) (ML : ∀ kd, kd < 5 → Mth P w K mg base 1 (cs kd) "__len__" [] (fun vs _ => vs) (spLen (cs kd) (lenK kd))) (MT : ∀ kd, kd < 5 → Mth P w K mg base 3 (cs kd) "__str__" [] (fun vs _ => vs) (spStr (cs kd)))
    (MR : ∀ kd, kd < 5 → Mth P w K mg base 5 (cs kd) "read" [] (fun vs _ => vs) (spR26 cs kd)) (ME : ∀ kd, kd < 5 → Mth P w K mg base 1 (cs kd) "__eq__" [] (fun vs _ => vs) (spCEq cs kd)) (NE : ∀ kd, kd < 5 → NeOk K (cs kd)) (NF : ∀ kd kd', kd < 5 → kd' < 5 → PySem.W.notFirst K (cs kd) (.ref (cs kd')) = true) :
    FnOk P w K mg base CX0 8 f fd ["place", "one", "other"] (spAgree cs) := by
  refine F.ok sc_law_agree (fun vs H Q E h => ?_) (fun cdv A outer s H vs Q E hr h => ?_)
  · obtain ⟨x, p, y, q, pl, kd, n, kd', n', ws, us, rfl, _⟩ := h; rfl
  · obtain ⟨x, p, y, q, pl, kd, n, kd', n', ws, us, rfl, ox, oy, kk, kk', hn, hn', h1, h1', k⟩ := h
    refine ⟨_, (pss_cons (ps_set (i := 3) sc_law_agree.nd rfl (Or.inl rfl) (pe_cmpR (op_eqO2 1 ⟨rfl, rfl, rfl, rfl, rfl⟩ (hr.mono (by first | decide | omega))) (pv 1) (pv 2) (nomark _)))
      (pss_cons (ps_if (PW.pt (pw_or (pt_cmpR op_ne (pv 3) (pe_cmpR op_eq (pe_strO 3 ⟨rfl, rfl, rfl, rfl, rfl⟩ (hr.mono (by first | decide | omega)) rfl T.str (pv 1)) (pe_strO 3 ⟨rfl, rfl, rfl, rfl, rfl⟩ (hr.mono (by first | decide | omega)) rfl T.str (pv 2)) (nomark _)) (nomark _)) (pw_or (pt_cmpR op_ne (pe_cmpR (op_eqO2 1 ⟨rfl, rfl, rfl, rfl, rfl⟩ (hr.mono (by first | decide | omega))) (pv 2) (pv 1) (nomark _)) (pv 3) (nomark _)) (pw_or1 (pt_cmpR op_eq (pe_cmpR (op_neO2 1 ⟨rfl, rfl, rfl, rfl, rfl⟩ (hr.mono (by first | decide | omega))) (pv 1) (pv 2) (nomark _)) (pv 3) (nomark _)))))) (pss_one (ps_ret pe_bl)) pss_nil)
      (pss_cons (ps_set (i := 4) sc_law_agree.nd rfl (Or.inl rfl) (pe_lst (pa_cons (pe_cal Gread_chip (hr.mono (by first | decide | omega)) rfl (pa_cons (pe_strO 3 ⟨rfl, rfl, rfl, rfl, rfl⟩ (hr.mono (by first | decide | omega)) rfl T.str (pv 1)) pa_nil)) (pa_cons (pe_cal Gread_chip (hr.mono (by first | decide | omega)) rfl (pa_cons (pe_strO 3 ⟨rfl, rfl, rfl, rfl, rfl⟩ (hr.mono (by first | decide | omega)) rfl T.str (pv 2)) pa_nil)) pa_nil))))
      (pss_cons (ps_if (PW.pt (pw_or (pt_not (pt_cmpR (op_eqO2 1 ⟨rfl, rfl, rfl, rfl, rfl⟩ (hr.mono (by first | decide | omega))) (pe_ix ix_list (pv 4) pe_int (fun _ _ => rfl)) (pv 1) (nomark _))) (pw_or (pt_cmpR op_ne (pe_cmpR (op_eqO2 1 ⟨rfl, rfl, rfl, rfl, rfl⟩ (hr.mono (by first | decide | omega))) (pe_ix ix_list (pv 4) pe_int (fun _ _ => rfl)) (pv 2) (nomark _)) (pv 3) (nomark _)) (pw_or1 (pt_cmpR op_ne (pe_cmpR (op_eqO2 1 ⟨rfl, rfl, rfl, rfl, rfl⟩ (hr.mono (by first | decide | omega))) (pe_ix ix_list (pv 4) pe_int (fun _ _ => rfl)) (pe_ix ix_list (pv 4) pe_int (fun _ _ => rfl)) (nomark _)) (pv 3) (nomark _)))))) (pss_one (ps_ret pe_bl)) pss_nil)
      (pss_cons (ps_if (pt_not (pt_val (pv 3))) (pss_one (ps_ret pe_bl)) pss_nil)
      (pss_cons (ps_if (PW.pt (pw_or (pt_not (pt_val (pe_cal G_law_alike (hr.mono (by first | decide | omega)) rfl (pa_cons (pe_mth0 1 ⟨rfl, rfl, rfl, rfl, rfl⟩ (hr.mono (by first | decide | omega)) (pv 1)) (pa_cons (pe_mth0 1 ⟨rfl, rfl, rfl, rfl, rfl⟩ (hr.mono (by first | decide | omega)) (pv 2)) pa_nil))))) (pw_or1 (pt_cmpR op_ne (pe_lenO 1 ⟨rfl, rfl, rfl, rfl, rfl⟩ (hr.mono (by first | decide | omega)) rfl T.len (pv 1)) (pe_lenO 1 ⟨rfl, rfl, rfl, rfl, rfl⟩ (hr.mono (by first | decide | omega)) rfl T.len (pv 2)) (nomark _))))) (pss_one (ps_ret pe_bl)) pss_nil)
      (pss_cons (ps_set (i := 5) sc_law_agree.nd rfl (Or.inl rfl) (pe_ix ix_list (pe_lst (pa_cons pe_int (pa_cons (pv 0) pa_nil))) (pe_callTy call_int1 (by rfl) T.int bt_int (pa_cons (pe_cmpR op_lt (pv 0) (pe_lenO 1 ⟨rfl, rfl, rfl, rfl, rfl⟩ (hr.mono (by first | decide | omega)) rfl T.len (pv 1)) (nomark _)) pa_nil)) (fun _ _ => rfl)))
      (pss_one (ps_ret (pe_and (pe_cal G_law_alike (hr.mono (by first | decide | omega)) rfl (pa_cons (pe_mth 5 ⟨rfl, rfl, rfl, rfl, rfl⟩ (hr.mono (by first | decide | omega)) (pe_ix ix_list (pv 4) pe_int (fun _ _ => rfl)) (pa_cons (pv 5) pa_nil)) (pa_cons (pe_mth 5 ⟨rfl, rfl, rfl, rfl, rfl⟩ (hr.mono (by first | decide | omega)) (pe_ix ix_list (pv 4) pe_int (fun _ _ => rfl)) (pa_cons (pv 5) pa_nil)) pa_nil))) (pe_one (pe_cmpR (op_eqO2 1 ⟨rfl, rfl, rfl, rfl, rfl⟩ (hr.mono (by first | decide | omega))) (pe_ix ix_list (pv 4) pe_int (fun _ _ => rfl)) (pe_ix ix_list (pv 4) pe_int (fun _ _ => rfl)) (nomark _))))))))))))), ?rd⟩
    have h5 := kk.k5
    have h5' := kk'.k5
    obtain ⟨dx, ex⟩ := ox.ex
    obtain ⟨dy, ey⟩ := oy.ex
    have eB := same_text kk kk' hn hn'
    have eB2 : (decide (khead kd' n' = khead kd n) && decide (us = ws)) = decide (V.str (ktext kd n ws) = V.str (ktext kd' n' us)) := by
      rw [same_text kk' kk hn' hn]
      exact decide_eq_decide.mpr ⟨Eq.symm, Eq.symm⟩
    have eq1 : (decide (khead kd n = khead kd n) && decide (ws = ws)) = true := by simp
    refine ⟨_, rfl, _, rfl, x, y, cs kd, cs kd', dx, _, dy, _, _, _, rfl, rfl, ex, ey, NF kd kd' h5 h5', ME kd h5, (fun h => nomatch h), x, y, p, q, kd', n, n', ws, us, h5', rfl, ox, oy, _, rfl, ?_⟩
    rw [eB, Bool.false_bne]
    generalize hB : decide (V.str (ktext kd n ws) = V.str (ktext kd' n' us)) = B at eB eB2 ⊢
    refine ⟨_, rfl, _, rfl, x, cs kd, dx, _, _, _, rfl, ex, MT kd h5, x, p, dx, khead kd n, ws, _, rfl, ex, ox.ls, head_len h5, kk.w5, kk.ln, fun Y1 s1 => ⟨_, rfl, ?_⟩⟩
    refine ⟨_, rfl, y, cs kd', dy, _, _, _, rfl, s1 _ _ ey, MT kd' h5', y, q, dy, khead kd' n', us, _, rfl, s1 _ _ ey, s1 _ _ oy.ls, head_len h5', kk'.w5, kk'.ln, fun Y2 s2 => ⟨_, rfl, rfl, ?_⟩⟩
    show _
    refine ⟨rfl, _, rfl, iteNS (congrArg V.bl hB.symm) ?_⟩
    have sa := s1.trans s2
    refine ⟨_, rfl, _, rfl, y, x, cs kd', cs kd, dy, _, dx, _, _, _, rfl, rfl, sa _ _ ey, sa _ _ ex, NF kd' kd h5' h5, ME kd' h5', (fun h => nomatch h), y, x, q, p, kd, n', n, us, ws, h5, rfl, oy.same sa, ox.same sa, _, rfl, ?_⟩
    rw [eB2, Bool.false_bne]
    refine ⟨_, rfl, rfl, _, rfl, iteNS rfl ?_⟩
    refine ⟨_, rfl, _, rfl, x, y, cs kd, cs kd', dx, _, dy, _, _, _, rfl, rfl, sa _ _ ex, sa _ _ ey, NF kd kd' h5 h5', ME kd h5, (fun _ => NE kd h5), x, y, p, q, kd', n, n', ws, us, h5', rfl, ox.same sa, oy.same sa, _, rfl, ?_⟩
    rw [eB]
    refine ⟨_, rfl, rfl, _, rfl, ?_⟩
    rw [show decide (V.bl (true != B) = V.bl B) = false by cases B <;> rfl]
    refine iteF (next_of ?_)
    -- the copies
    refine ⟨_, rfl, x, cs kd, dx, _, _, _, rfl, sa _ _ ex, MT kd h5, x, p, dx, khead kd n, ws, _, rfl, sa _ _ ex, sa _ _ ox.ls, head_len h5, kk.w5, kk.ln, fun Y3 s3 => ⟨_, rfl, ?_⟩⟩
    have sb := sa.trans s3
    refine ⟨kd, n, ws, rfl, kk, hn, h1, fun c0 r0 Y4 o0 f0 s4 => ?_⟩
    have sc := sb.trans s4
    refine ⟨_, rfl, y, cs kd', dy, _, _, _, rfl, sc _ _ ey, MT kd' h5', y, q, dy, khead kd' n', us, _, rfl, sc _ _ ey, sc _ _ oy.ls, head_len h5', kk'.w5, kk'.ln, fun Y5 s5 => ⟨_, rfl, ?_⟩⟩
    have sd := sc.trans s5
    refine ⟨kd', n', us, rfl, kk', hn', h1', fun c1 r1 Y6 o1 f1 s6 => ?_⟩
    have se := sd.trans s6
    have o0' := o0.same (s5.trans s6)
    refine ⟨by show 2 ≤ sizeLine; decide, fun l hl => ?_⟩
    have sl : Same Y6 (upd Y6 l (.lst [.ref c0, .ref c1])) := same_new hl
    have el : upd Y6 l (.lst [.ref c0, .ref c1]) l = some (.lst [.ref c0, .ref c1]) := upd_same
    have sf := se.trans sl
    have o0l := o0'.same sl
    have o1l := o1.same sl
    refine at_heap (fun Z => Same H Z ∧ Z l = some (.lst [.ref c0, .ref c1]) ∧ Chp cs Z c0 r0 kd n ws ∧ Chp cs Z c1 r1 kd' n' us) ⟨sf, el, o0l, o1l⟩ ?_
    rintro Z ⟨sZ, eZ, z0, z1⟩
    obtain ⟨d0, e0⟩ := z0.ex
    obtain ⟨d1, e1⟩ := z1.ex
    refine ⟨_, rfl, l, _, _, _, rfl, rfl, SqL.of eZ, rfl, _, rfl, c0, x, cs kd, cs kd, d0, _, dx, _, _, _, rfl, rfl, e0, sZ _ _ ex, NF kd kd h5 h5, ME kd h5, (fun h => nomatch h), c0, x, r0, p, kd, n, n, ws, ws, h5, rfl, z0, ox.same sZ, _, rfl, _, rfl, ?_⟩
    rw [eq1]
    refine iteF ?_
    refine ⟨_, rfl, l, _, _, _, rfl, rfl, SqL.of eZ, rfl, _, rfl, c0, y, cs kd, cs kd', d0, _, dy, _, _, _, rfl, rfl, e0, sZ _ _ ey, NF kd kd' h5 h5', ME kd h5, (fun h => nomatch h), c0, y, r0, q, kd', n, n', ws, us, h5', rfl, z0, oy.same sZ, _, rfl, ?_⟩
    rw [eB, Bool.false_bne]
    refine ⟨_, rfl, rfl, _, rfl, iteNS rfl ?_⟩
    refine ⟨_, rfl, l, _, _, _, rfl, rfl, SqL.of eZ, rfl, _, rfl, l, _, _, _, rfl, rfl, SqL.of eZ, rfl, c0, c1, cs kd, cs kd', d0, _, d1, _, _, _, rfl, rfl, e0, e1, NF kd kd' h5 h5', ME kd h5, (fun h => nomatch h), c0, c1, r0, r1, kd', n, n', ws, us, h5', rfl, z0, z1, _, rfl, ?_⟩
    rw [eB, Bool.false_bne]
    refine ⟨_, rfl, rfl, _, rfl, iteNS rfl (next_of ?_)⟩
    refine ⟨_, rfl, _, rfl, ?_⟩
    cases hBc : B with
    | false => exact iteT (k Z sZ)
    | true =>
      refine iteF (next_of ?_)
      rw [hBc] at hB
      obtain ⟨rfl, rfl, rfl⟩ := ktext_inj kk kk' hn hn' (V.str.inj (of_decide_eq_true hB))
      refine ⟨_, rfl, x, cs kd, dx, _, _, _, rfl, sZ _ _ ex, MS kd h5, lk_none (.inr (.inr rfl)) _ _, x, p, _, _, rfl, (ox.same sZ).ob, fun t1 ht1 => ?_⟩
      have u1 : Same Z (upd Z t1 (.tup (vN ws))) := same_new ht1
      have sg := sZ.trans u1
      refine ⟨_, rfl, y, cs kd, dy, _, _, _, rfl, sg _ _ ey, MS kd h5, lk_none (.inr (.inr rfl)) _ _, y, q, _, _, rfl, (oy.same sg).ob, fun t2 ht2 => ?_⟩
      have u2 := u1.trans (same_new (o := .tup (vN ws)) ht2)
      refine ⟨_, _, rfl, lk_vN (same_new ht2 _ _ upd_same) upd_same kk.ln, fun Z2 g2 => ⟨_, rfl, iteF ?_⟩⟩
      have u3 := u2.trans g2
      have sh := sZ.trans u3
      have lenZ : (lenK kd (vN ws) : Int) < 2 ^ 63 := by
        unfold lenK
        split
        · show ((2 : Nat) : Int) < 2 ^ 63; omega
        · rw [vN_length]; have := kk.ln; omega
      have eL : lenK kd (vN ws) = ksize kd ws := by
        unfold lenK ksize
        split
        · rfl
        · exact vN_length _
      refine ⟨_, rfl, x, cs kd, dx, _, _, _, rfl, sh _ _ ex, ML kd h5, x, p, _, _, rfl, (ox.same sh).ob, _, rfl, by omega, lenZ, ?_⟩
      refine ⟨_, rfl, y, cs kd, dy, _, _, _, rfl, sh _ _ ey, ML kd h5, y, q, _, _, rfl, (oy.same sh).ob, _, rfl, by omega, lenZ, rfl, _, rfl, iteNS rfl (next_of ?_)⟩
      refine ⟨_, rfl, by show 2 ≤ sizeLine; decide, fun a2 ha2 => ?_⟩
      have u4 := u3.trans (same_new (o := .lst [V.int 0, V.int (pl : Int)]) ha2)
      have si := sZ.trans u4
      refine ⟨_, rfl, _, rfl, x, cs kd, dx, _, _, _, rfl, si _ _ ex, ML kd h5, x, p, _, _, rfl, (ox.same si).ob, _, rfl, by omega, lenZ, ?_⟩
      rw [eL]
      obtain ⟨at_, hat, eat⟩ : ∃ at_ : Nat, at_ < ksize kd ws ∧ atI [V.int 0, V.int (pl : Int)] (if decide ((pl : Int) < (ksize kd ws : Int)) = true then (1 : Int) else 0) = some (.int (at_ : Int)) := by
        have hs : 0 < ksize kd ws := by
          unfold ksize
          split
          · decide
          · rename_i e; exact kk.l1 e
        by_cases e : pl < ksize kd ws
        · rw [decide_eq_true (show (pl : Int) < (ksize kd ws : Int) by omega)]
          exact ⟨pl, e, rfl⟩
        · rw [decide_eq_false (show ¬ (pl : Int) < (ksize kd ws : Int) by omega)]
          exact ⟨0, hs, rfl⟩
      refine ⟨_, _, rfl, rfl, .inr ⟨_, rfl, a2, _, _, _, rfl, rfl, SqL.of upd_same, eat, ?_⟩⟩
      have e4 : upd Z2 a2 (.lst [V.int 0, V.int (pl : Int)]) l = some (.lst [.ref c0, .ref c1]) := u4 _ _ eZ
      have z04 := z0.same u4
      have z14 := z1.same u4
      have hne : r1 ≠ r0 := Ne.symm (ne_of_none (o0.same s5).ls f1)
      have fr0 : H r0 = none := by
        cases e : H r0 with
        | none => rfl
        | some o => rw [sb _ _ e] at f0; cases f0
      have fr1 : H r1 = none := by
        cases e : H r1 with
        | none => rfl
        | some o => rw [sd _ _ e] at f1; cases f1
      have nl0 : l ≠ r0 := fun z => by rw [z, o0'.ls] at hl; cases hl
      have nl1 : l ≠ r1 := fun z => by rw [z, o1.ls] at hl; cases hl
      have n10 : c1 ≠ r0 := fun z => by rw [z, z0.ls] at e1; cases e1
      have n01 : c0 ≠ r1 := fun z => by rw [z, z1.ls] at e0; cases e0
      generalize upd Z2 a2 (.lst [V.int 0, V.int (pl : Int)]) = W at si e4 z04 z14 ⊢
      obtain ⟨g0, w0⟩ := z04.ex
      obtain ⟨g1, w1⟩ := z14.ex
      refine ⟨_, rfl, l, _, _, _, rfl, rfl, SqL.of e4, rfl, c0, cs kd, g0, _, _, _, rfl, w0, MR kd h5, lk_none (.inr (.inl rfl)) _ _, _, rfl, c0, r0, n, at_, ws, rfl, z04, kk, hat, fun W1 b1 m1 => ?_⟩
      have z15 : Chp cs W1 c1 r1 kd n ws := ⟨⟨g1, by rw [m1 c1 n10]; exact w1⟩, by rw [m1 r1 hne]; exact z14.ls⟩
      refine ⟨_, rfl, l, _, _, _, rfl, rfl, SqL.of (by rw [m1 l nl0]; exact e4), rfl, c1, cs kd, g1, _, _, _, rfl, by rw [m1 c1 n10]; exact w1, MR kd h5, lk_none (.inr (.inl rfl)) _ _, _, rfl, c1, r1, n, at_, ws, rfl, z15, kk, hat, fun W2 b2 m2 => ?_⟩
      refine ⟨_, _, rfl, .int _, fun W3 g3 => ⟨true, rfl, iteT ?_⟩⟩
      have z06 : Chp cs W3 c0 r0 kd n (krd kd ws at_) := ⟨⟨g0, g3 _ _ (by rw [m2 c0 n01, m1 c0 z04.ne]; exact w0)⟩, g3 _ _ (by rw [m2 r0 (Ne.symm hne)]; exact b1)⟩
      have z16 : Chp cs W3 c1 r1 kd n (krd kd ws at_) := ⟨⟨g1, g3 _ _ (by rw [m2 c1 z15.ne, m1 c1 n10]; exact w1)⟩, g3 _ _ b2⟩
      have e6 : W3 l = some (.lst [.ref c0, .ref c1]) := g3 _ _ (by rw [m2 l nl1, m1 l nl0]; exact e4)
      obtain ⟨q0, v0⟩ := z06.ex
      obtain ⟨q1, v1⟩ := z16.ex
      refine ⟨_, rfl, l, _, _, _, rfl, rfl, SqL.of e6, rfl, _, rfl, l, _, _, _, rfl, rfl, SqL.of e6, rfl, c0, c1, cs kd, cs kd, q0, _, q1, _, _, _, rfl, rfl, v0, v1, NF kd kd h5 h5, ME kd h5, (fun h => nomatch h), c0, c1, r0, r1, kd, n, n, _, _, h5, rfl, z06, z16, _, rfl, ?_⟩
      rw [show (decide (khead kd n = khead kd n) && decide (krd kd ws at_ = krd kd ws at_)) = true by simp]
      exact k W3 fun b o e => g3 _ _ (by rw [m2 b (ne_of_none e fr1), m1 b (ne_of_none e fr0)]; exact si _ _ e)
end
abbrev s_law_pair : Stmt := top 43
theorem sc_law_pair : FnScope ["bag", "kind", "one", "many", "row"] ["bag"] (defScope s_law_pair) := ⟨rfl, rfl, rfl, by decide +kernel, rfl, by decide +kernel, by decide +kernel⟩
section
variable {P : Program} {w : World} {K : PySem.W.Frag} {mg : Str → Option Value} {base : Heap}
theorem at_st {P : St → Hp → Prop} {σ σ' : St} {H : Hp} (e : σ = σ') (h : P σ' H) : P σ H := by rw [e]; exact h
def spPair (cs : Nat → Addr) : Sp := fun vs H Q _ => ∃ (b : Addr) (j : Nat), vs = [.ref b] ∧ BagAt H b j ∧ j + 100 < 2 ^ 30 ∧ ∀ (u x y p q m row : Addr) (kd n : Nat) (ws : List Nat) (H' : Hp), H' u = some (.tup [.ref x, .ref y, .ref m]) → Chp cs H' x p kd n ws → Chp cs H' y q kd n ws → Mdl H' m row kd n ws → Kd kd n ws → (kd ≠ 4 → n = 0) → (kd = 2 ∨ kd = 3 → ws.length = 1) → H p = none → H q = none → p ≠ q → b ≠ p → b ≠ q → BagAt H' b (j + 100) → KeepP b H H' → Q (.ref u) H'
theorem ok_law_pair {f : Addr} {cs : Nat → Addr} {fd : FuncData} (F : Fun K "_law_pair" "_law_pair" s_law_pair f fd) (T : Blt mg) (G_law_draw : Cal P w K mg base 1 "_law_draw" ["bag", "many"] spDraw) (G_law_word : Cal P w K mg base 2 "_law_word" ["bag"] spWord)
    (GMFixed_1 : Mak P w K mg base 3 "Fixed" (cs 1) [] (dP []) (spMkFH (cs 1))) (GMFixed_words : Mak P w K mg base 3 "Fixed" (cs 1) ["words"] k1 (spMkFH (cs 1)))
    (GMPipe_1 : Mak P w K mg base 3 "Pipe" (cs 4) [] (dP []) (spMkP (cs 4))) (GMPipe_room : Mak P w K mg base 3 "Pipe" (cs 4) ["room"] k1 (spMkP (cs 4)))
    (GMLatch_1 : Mak P w K mg base 3 "Latch" (cs 2) [] (dP []) (spMk1H (cs 2) "latch")) (GMLatch_word : Mak P w K mg base 3 "Latch" (cs 2) ["word"] k1 (spMk1H (cs 2) "latch"))
    (GMMeter_1 : Mak P w K mg base 3 "Meter" (cs 3) [] (dP []) (spMk1H (cs 3) "meter")) (GMMeter_word : Mak P w K mg base 3 "Meter" (cs 3) ["word"] k1 (spMk1H (cs 3) "meter"))
    (GMStore_2 : Mak P w K mg base 3 "Store" (cs 0) [] (dP []) (spMkSH (cs 0))) (GMStore_word_cells : Mak P w K mg base 3 "Store" (cs 0) ["word", "cells"] k2s (spMkSH (cs 0))) :
    FnOk P w K mg base CX0 5 f fd ["bag"] (spPair cs) := by
  refine F.ok sc_law_pair (fun vs H Q E h => ?_) (fun cdv A outer s H vs Q E hr h => ?_)
  · obtain ⟨b, j, rfl, _⟩ := h; rfl
  · obtain ⟨b, j, rfl, hB, hj, k⟩ := h
    refine ⟨_, (pss_cons (ps_set (i := 1) sc_law_pair.nd rfl (Or.inl rfl) (pe_ix ix_list (pe_lst (pa_cons pe_str (pa_cons pe_str (pa_cons pe_str (pa_cons pe_str (pa_cons pe_str pa_nil)))))) (pe_cal G_law_draw (hr.mono (by first | decide | omega)) rfl (pa_cons (pv 0) (pa_cons pe_int pa_nil))) (fun _ _ => rfl)))
      (pss_cons (ps_set (i := 2) sc_law_pair.nd rfl (Or.inl rfl) (pe_cal G_law_word (hr.mono (by first | decide | omega)) rfl (pa_cons (pv 0) pa_nil)))
      (pss_cons (ps_set (i := 3) sc_law_pair.nd rfl (Or.inl rfl) (pe_op op_add pe_int (pe_cal G_law_draw (hr.mono (by first | decide | omega)) rfl (pa_cons (pv 0) (pa_cons pe_int pa_nil)))))
      (pss_cons (ps_if (pt_cmpR op_eq (pv 1) pe_str (nomark _)) (pss_cons (ps_setComp (i := 4) (Nc := ["k", "bag"]) [none, some 0] sc_law_pair.nd rfl rfl rfl (compOk_of (by rfl)) (pi_range1 rfl T.range (pa_cons (pv 3) pa_nil)) (fun _ _ _ _ _ => (pg_name (i := 0) (show (["k", "bag"] : List Str).Nodup by decide +kernel) rfl (Or.inl rfl))) (fun _ _ _ _ _ => pf_nil) (fun _ _ _ _ _ => (pe_cal G_law_word (hr.mono (by first | decide | omega)) rfl (pa_cons (pv 1) pa_nil))))
      (pss_one (ps_ret (pe_tup (pa_cons (pe_mak GMFixed_1 (hr.mono (by first | decide | omega)) rfl (pa_cons (pv 4) pa_nil)) (pa_cons (pe_makK GMFixed_words (hr.mono (by first | decide | omega)) rfl (pk_cons (pe_callTy call_list_of (by rfl) T.list bt_list (pa_cons (pv 4) pa_nil)) pk_nil)) (pa_cons (pe_lst (pa_cons (pv 1) (pa_cons pe_int (pa_cons (pv 4) pa_nil)))) pa_nil))))))) pss_nil)
      (pss_cons (ps_if (pt_cmpR op_eq (pv 1) pe_str (nomark _)) (pss_one (ps_ret (pe_tup (pa_cons (pe_mak GMPipe_1 (hr.mono (by first | decide | omega)) rfl (pa_cons (pv 3) pa_nil)) (pa_cons (pe_makK GMPipe_room (hr.mono (by first | decide | omega)) rfl (pk_cons (pv 3) pk_nil)) (pa_cons (pe_lst (pa_cons (pv 1) (pa_cons (pv 3) (pa_cons (pe_lst pa_nil) pa_nil)))) pa_nil)))))) pss_nil)
      (pss_cons (ps_if (pt_cmpR op_eq (pv 1) pe_str (nomark _)) (pss_one (ps_ret (pe_tup (pa_cons (pe_mak GMLatch_1 (hr.mono (by first | decide | omega)) rfl (pa_cons (pv 2) pa_nil)) (pa_cons (pe_makK GMLatch_word (hr.mono (by first | decide | omega)) rfl (pk_cons (pv 2) pk_nil)) (pa_cons (pe_lst (pa_cons (pv 1) (pa_cons pe_int (pa_cons (pe_lst (pa_cons (pv 2) pa_nil)) pa_nil)))) pa_nil)))))) pss_nil)
      (pss_cons (ps_if (pt_cmpR op_eq (pv 1) pe_str (nomark _)) (pss_one (ps_ret (pe_tup (pa_cons (pe_mak GMMeter_1 (hr.mono (by first | decide | omega)) rfl (pa_cons (pv 2) pa_nil)) (pa_cons (pe_makK GMMeter_word (hr.mono (by first | decide | omega)) rfl (pk_cons (pv 2) pk_nil)) (pa_cons (pe_lst (pa_cons (pv 1) (pa_cons pe_int (pa_cons (pe_lst (pa_cons (pv 2) pa_nil)) pa_nil)))) pa_nil)))))) pss_nil)
      (pss_one (ps_ret (pe_tup (pa_cons (pe_mak GMStore_2 (hr.mono (by first | decide | omega)) rfl (pa_cons (pv 3) (pa_cons (pv 2) pa_nil))) (pa_cons (pe_makK GMStore_word_cells (hr.mono (by first | decide | omega)) rfl (pk_cons (pv 2) (pk_cons (pv 3) pk_nil))) (pa_cons (pe_lst (pa_cons (pv 1) (pa_cons pe_int (pa_cons (pe_op op_rep (pe_lst (pa_cons (pv 2) pa_nil)) (pv 3)) pa_nil)))) pa_nil))))))))))))), ?rd⟩
    refine ⟨by show 5 ≤ sizeLine; decide, fun q0 hq0 => ?_⟩
    refine ⟨_, rfl, b, _, _, rfl, hB.same (same_new hq0), by omega, by decide, by decide, fun kd H1 hkd hB1 k1_ => ?_⟩
    have nq0 : q0 ≠ b := hB.ne hq0
    have kat : atI [V.str "store", V.str "fixed", V.str "latch", V.str "meter", V.str "pipe"] (kd : Int) = some (.str (kname kd)) := by
      rcases (show kd = 0 ∨ kd = 1 ∨ kd = 2 ∨ kd = 3 ∨ kd = 4 by omega) with rfl | rfl | rfl | rfl | rfl <;> rfl
    refine ⟨q0, _, _, _, rfl, rfl, SqL.of (by rw [k1_ q0 nq0]; exact upd_same), kat, ?_⟩
    have k01 : KeepP b H H1 := fun z o hz e => by rw [k1_ z hz]; exact same_new hq0 _ _ e
    refine ⟨_, rfl, b, _, rfl, hB1, by omega, fun one H2 hone hB2 k2_ => ?_⟩
    refine ⟨_, rfl, b, _, _, rfl, hB2, by omega, by decide, by decide, fun d1 H3 hd1 hB3 k3_ => ⟨_, _, rfl, rfl, ?_⟩⟩
    have k03 : KeepP b H H3 := fun z o hz e => by rw [k3_ z hz]; exact k2_ z o hz (k01 z o hz e)
    obtain ⟨mm, hm1, hm2, em⟩ : ∃ mm : Nat, 1 ≤ mm ∧ mm ≤ 7 ∧ (1 : Int) + (d1 : Int) = (mm : Int) := ⟨1 + d1, by omega, by omega, by omega⟩
    have fre : ∀ {X : Hp} {q : Addr}, KeepP b H X → q ≠ b → X q = none → H q = none := fun {X q} kx hq e => by
      cases e' : H q with
      | none => rfl
      | some o => rw [kx _ _ hq e'] at e; cases e
    have fin : ∀ (jj n : Nat) (ws : List Nat) (x y p q m row u : Addr) (X : Hp) (i : Nat), KeepP b H X → BagAt X b i → i ≤ j + 100 → Kd jj n ws → (jj ≠ 4 → n = 0) → (jj = 2 ∨ jj = 3 → ws.length = 1) → Chp cs X x p jj n ws → Chp cs X y q jj n ws → H p = none → H q = none → p ≠ q → b ≠ p → b ≠ q → Mdl X m row jj n ws → X u = none →
        Q (.ref u) (upd X u (.tup [.ref x, .ref y, .ref m])) := by
      intro jj n ws x y p q m row u X i kx hBx hi kk hn h1 ox oy fp fq npq nbp nbq d hu
      have s1 : Same X (upd X u (.tup [.ref x, .ref y, .ref m])) := same_new hu
      exact k u x y p q m row jj n ws _ upd_same (ox.same s1) (oy.same s1) (d.same s1) kk hn h1 fp fq npq nbp nbq ((hBx.same s1).mono hi) (kx.trans (KeepP.of s1))
    have duo : ∀ (jj n i : Nat) (ws : List Nat) (x0 x1 dx0 dx1 p0 p1 : Addr) (X Xa Xc Xb : Hp), KeepP b H X → BagAt X b i →
        X x0 = none → X dx0 = none → upd (upd X dx0 (.own x0)) x0 (.ins (cs jj) dx0 []) p0 = none → Chp cs Xa x0 p0 jj n ws → KeepP x0 (upd (upd X dx0 (.own x0)) x0 (.ins (cs jj) dx0 [])) Xa → Same Xa Xc →
        Xc x1 = none → Xc dx1 = none → upd (upd Xc dx1 (.own x1)) x1 (.ins (cs jj) dx1 []) p1 = none → Chp cs Xb x1 p1 jj n ws → KeepP x1 (upd (upd Xc dx1 (.own x1)) x1 (.ins (cs jj) dx1 [])) Xb →
        KeepP b H Xb ∧ BagAt Xb b i ∧ Same X Xb ∧ Chp cs Xb x0 p0 jj n ws ∧ H p0 = none ∧ H p1 = none ∧ p0 ≠ p1 ∧ b ≠ p0 ∧ b ≠ p1 := by
      intro jj n i ws x0 x1 dx0 dx1 p0 p1 X Xa Xc Xb kX hBX hx0 hdx0 hp0 o0 kp0 sc hx1 hdx1 hp1 o1 kp1
      have sa := mk_same hx0 hdx0 kp0
      have sb := mk_same hx1 hdx1 kp1
      have f0 := mk_free hx0 hdx0 hp0
      have f1 := mk_free hx1 hdx1 hp1
      have sall := (sa.trans sc).trans sb
      have kXc : KeepP b H Xc := kX.trans (KeepP.of (sa.trans sc))
      have hBc := hBX.same (sa.trans sc)
      exact ⟨kX.trans (KeepP.of sall), hBX.same sall, sall, o0.same (sc.trans sb), fre kX (hBX.ne f0) f0, fre kXc (hBc.ne f1) f1, ne_of_none (o0.same sc).ls f1, (hBX.ne f0).symm, (hBc.ne f1).symm⟩
    dsimp only [gName]
    refine at_st (σ' := [some (.ref b), some (.str (kname kd)), some (.int (one : Int)), some (.int (mm : Int)), none]) (by rw [← em]; rfl) ?_
    refine ⟨_, rfl, rfl, _, rfl, ?_⟩
    rw [show decide (V.str (kname kd) = V.str "fixed") = decide (kd = 1) from kname_eq (j := 1) (by omega) (by decide)]
    by_cases e1 : kd = 1
    · subst e1
      rw [decide_eq_true rfl]
      refine iteT ?_
      refine ⟨_, rfl, (mm : Int), rfl, by omega, by omega, ?_⟩
      refine comp_range (n := mm) (fun i ys σ X => ∃ v l, σ = [v, some (.ref b)] ∧ ys = vN l ∧ (∀ w ∈ l, w ≤ 255) ∧ l.length = i ∧ BagAt X b (j + 10 + 2 * i) ∧ KeepP b H X) (Nat.le_trans (show mm ≤ 10 by omega) (by decide)) ⟨none, [], rfl, rfl, (fun _ h => nomatch h), rfl, hB3.mono (by omega), k03⟩ ?_ ?_ ?_
      · rintro i ys σ X ⟨v, l, _, rfl, _, e, _⟩
        rw [vN_length]; omega
      · rintro i ys σ X hi ⟨v, l, rfl, rfl, hw, hl, hBX, kX⟩
        refine ⟨_, rfl, b, _, rfl, hBX, by omega, fun r7 X7 hr7 hB7 k7 => ?_⟩
        exact ⟨some (.int (0 + (i : Int))), l ++ [r7], rfl, (vN_snoc _ _).symm, all_snoc hw hr7, by simp [hl], hB7.mono (by omega), kX.trans k7⟩
      rintro ys σ X ⟨v, l, rfl, rfl, hw, hl, hBX, kX⟩ D hD
      have sD : Same X (upd X D (.lst (vN l))) := same_new hD
      have eD : upd X D (.lst (vN l)) D = some (.lst (vN l)) := upd_same
      have kD := kX.trans (KeepP.of sD)
      have hBD := hBX.same sD
      generalize upd X D (.lst (vN l)) = Y at sD eD kD hBD ⊢
      refine ⟨_, rfl, fun x0 dx0 hx0 hdx0 _ => ⟨x0, dx0, D, l, rfl, same_mk hx0 hdx0 _ _ eD, by omega, by omega, hw, upd_same, fun p0 Xa hp0 ea la kpa => ⟨rfl, ?_⟩⟩⟩
      have sa := mk_same hx0 hdx0 kpa
      refine ⟨_, rfl, D, _, rfl, .inl (SqL.of (sa _ _ eD)), fun D2 hD2 => ?_⟩
      have s2 : Same Xa (upd Xa D2 (.lst (vN l))) := same_new hD2
      refine fun x1 dx1 hx1 hdx1 _ => ⟨x1, dx1, D2, l, rfl, same_mk hx1 hdx1 _ _ upd_same, by omega, by omega, hw, upd_same, fun p1 Xb hp1 eb lb kpb => ⟨rfl, ?_⟩⟩
      obtain ⟨kb, hBb, sb, o0, f0, f1, npq, nb0, nb1⟩ := duo 1 0 _ l x0 x1 dx0 dx1 p0 p1 Y Xa _ Xb kD hBD hx0 hdx0 hp0 ⟨ea, la⟩ kpa s2 hx1 hdx1 hp1 ⟨eb, lb⟩ kpb
      refine ⟨_, rfl, _, rfl, by show 3 ≤ sizeLine; decide, fun m hm => ⟨by show 3 ≤ sizeLine; decide, fun u hu => ?_⟩⟩
      have sm : Same Xb (upd Xb m (.lst [.str (kname 1), .int 0, .ref D])) := same_new hm
      exact fin 1 0 l x0 x1 p0 p1 m D u _ _ (kb.trans (KeepP.of sm)) (hBb.same sm) (by omega) ⟨by decide, hw, by omega, (fun _ => by omega), (fun h => by cases h), (fun h => by cases h), by decide⟩ (fun _ => rfl) (fun h => by omega) (o0.same sm) ((show Chp cs Xb x1 p1 1 0 l from ⟨eb, lb⟩).same sm) f0 f1 npq nb0 nb1 ⟨upd_same, sm _ _ (sb _ _ eD)⟩ hu
    rw [decide_eq_false e1]
    refine iteF (next_of ?_)
    refine ⟨_, rfl, rfl, _, rfl, ?_⟩
    rw [show decide (V.str (kname kd) = V.str "pipe") = decide (kd = 4) from kname_eq (j := 4) (by omega) (by decide)]
    by_cases e4 : kd = 4
    · subst e4
      rw [decide_eq_true rfl]
      refine iteT ?_
      refine ⟨_, rfl, fun x0 dx0 hx0 hdx0 _ => ⟨x0, dx0, mm, rfl, hm1, by omega, upd_same, fun p0 Xa hp0 o0 kp0 => ⟨rfl, ?_⟩⟩⟩
      refine ⟨_, rfl, fun x1 dx1 hx1 hdx1 _ => ⟨x1, dx1, mm, rfl, hm1, by omega, upd_same, fun p1 Xb hp1 o1 kp1 => ⟨rfl, ?_⟩⟩⟩
      obtain ⟨kb, hBb, sb, o0, f0, f1, npq, nb0, nb1⟩ := duo 4 mm _ [] x0 x1 dx0 dx1 p0 p1 H3 Xa Xa Xb k03 hB3 hx0 hdx0 hp0 ⟨o0.ex, o0.ls⟩ kp0 (Same.refl _) hx1 hdx1 hp1 ⟨o1.ex, o1.ls⟩ kp1
      refine ⟨_, rfl, _, rfl, by show 0 ≤ sizeLine; decide, fun row hrow => ⟨by show 3 ≤ sizeLine; decide, fun m hm => ⟨by show 3 ≤ sizeLine; decide, fun u hu => ?_⟩⟩⟩
      have sm := (same_new (o := .lst []) hrow).trans (same_new (o := .lst [.str (kname 4), .int (mm : Int), .ref row]) hm)
      exact fin 4 mm [] x0 x1 p0 p1 m row u _ _ (kb.trans (KeepP.of sm)) (hBb.same sm) (by omega) ⟨by decide, (fun _ h => nomatch h), Nat.zero_le _, (fun h => absurd rfl h), (fun h => by cases h), (fun _ => ⟨Nat.zero_le _, hm1⟩), by omega⟩ (fun h => absurd rfl h) (fun h => by omega) (o0.same sm) ((show Chp cs Xb x1 p1 4 mm [] from ⟨o1.ex, o1.ls⟩).same sm) f0 f1 npq nb0 nb1 ⟨upd_same, same_new hm _ _ upd_same⟩ hu
    rw [decide_eq_false e4]
    refine iteF (next_of ?_)
    refine ⟨_, rfl, rfl, _, rfl, ?_⟩
    rw [show decide (V.str (kname kd) = V.str "latch") = decide (kd = 2) from kname_eq (j := 2) (by omega) (by decide)]
    by_cases e2 : kd = 2
    · subst e2
      rw [decide_eq_true rfl]
      refine iteT ?_
      refine ⟨_, rfl, fun x0 dx0 hx0 hdx0 _ => ⟨x0, dx0, (one : Int), rfl, by omega, by omega, upd_same, fun p0 Xa hp0 ea la kp0 => ⟨rfl, ?_⟩⟩⟩
      refine ⟨_, rfl, fun x1 dx1 hx1 hdx1 _ => ⟨x1, dx1, (one : Int), rfl, by omega, by omega, upd_same, fun p1 Xb hp1 eb lb kp1 => ⟨rfl, ?_⟩⟩⟩
      obtain ⟨kb, hBb, sb, o0, f0, f1, npq, nb0, nb1⟩ := duo 2 0 _ [one] x0 x1 dx0 dx1 p0 p1 H3 Xa Xa Xb k03 hB3 hx0 hdx0 hp0 ⟨ea, la⟩ kp0 (Same.refl _) hx1 hdx1 hp1 ⟨eb, lb⟩ kp1
      refine ⟨_, rfl, _, rfl, by show 1 ≤ sizeLine; decide, fun row hrow => ⟨by show 3 ≤ sizeLine; decide, fun m hm => ⟨by show 3 ≤ sizeLine; decide, fun u hu => ?_⟩⟩⟩
      have sm := (same_new (o := .lst [V.int (one : Int)]) hrow).trans (same_new (o := .lst [.str (kname 2), .int 0, .ref row]) hm)
      exact fin 2 0 [one] x0 x1 p0 p1 m row u _ _ (kb.trans (KeepP.of sm)) (hBb.same sm) (by omega) ⟨by decide, (fun z hz => by rw [List.mem_singleton.mp hz]; exact hone), (by show 1 ≤ 4096; decide), (fun _ => Nat.le_refl _), (fun _ => rfl), (fun h => by cases h), by decide⟩ (fun _ => rfl) (fun _ => rfl) (o0.same sm) ((show Chp cs Xb x1 p1 2 0 [one] from ⟨eb, lb⟩).same sm) f0 f1 npq nb0 nb1 ⟨upd_same, same_new hm _ _ upd_same⟩ hu
    rw [decide_eq_false e2]
    refine iteF (next_of ?_)
    refine ⟨_, rfl, rfl, _, rfl, ?_⟩
    rw [show decide (V.str (kname kd) = V.str "meter") = decide (kd = 3) from kname_eq (j := 3) (by omega) (by decide)]
    by_cases e3 : kd = 3
    · subst e3
      rw [decide_eq_true rfl]
      refine iteT ?_
      refine ⟨_, rfl, fun x0 dx0 hx0 hdx0 _ => ⟨x0, dx0, (one : Int), rfl, by omega, by omega, upd_same, fun p0 Xa hp0 ea la kp0 => ⟨rfl, ?_⟩⟩⟩
      refine ⟨_, rfl, fun x1 dx1 hx1 hdx1 _ => ⟨x1, dx1, (one : Int), rfl, by omega, by omega, upd_same, fun p1 Xb hp1 eb lb kp1 => ⟨rfl, ?_⟩⟩⟩
      obtain ⟨kb, hBb, sb, o0, f0, f1, npq, nb0, nb1⟩ := duo 3 0 _ [one] x0 x1 dx0 dx1 p0 p1 H3 Xa Xa Xb k03 hB3 hx0 hdx0 hp0 ⟨ea, la⟩ kp0 (Same.refl _) hx1 hdx1 hp1 ⟨eb, lb⟩ kp1
      refine ⟨_, rfl, _, rfl, by show 1 ≤ sizeLine; decide, fun row hrow => ⟨by show 3 ≤ sizeLine; decide, fun m hm => ⟨by show 3 ≤ sizeLine; decide, fun u hu => ?_⟩⟩⟩
      have sm := (same_new (o := .lst [V.int (one : Int)]) hrow).trans (same_new (o := .lst [.str (kname 3), .int 0, .ref row]) hm)
      exact fin 3 0 [one] x0 x1 p0 p1 m row u _ _ (kb.trans (KeepP.of sm)) (hBb.same sm) (by omega) ⟨by decide, (fun z hz => by rw [List.mem_singleton.mp hz]; exact hone), (by show 1 ≤ 4096; decide), (fun _ => Nat.le_refl _), (fun _ => rfl), (fun h => by cases h), by decide⟩ (fun _ => rfl) (fun _ => rfl) (o0.same sm) ((show Chp cs Xb x1 p1 3 0 [one] from ⟨eb, lb⟩).same sm) f0 f1 npq nb0 nb1 ⟨upd_same, same_new hm _ _ upd_same⟩ hu
    rw [decide_eq_false e3]
    refine iteF (next_of ?_)
    obtain rfl : kd = 0 := by omega
    refine ⟨_, rfl, _, rfl, fun x0 dx0 hx0 hdx0 _ => ⟨x0, dx0, mm, (one : Int), rfl, hm1, by omega, by omega, by omega, upd_same, fun p0 Xa hp0 ea la kp0 => ⟨rfl, ?_⟩⟩⟩
    refine ⟨_, rfl, _, rfl, fun x1 dx1 hx1 hdx1 _ => ⟨x1, dx1, mm, (one : Int), rfl, hm1, by omega, by omega, by omega, upd_same, fun p1 Xb hp1 eb lb kp1 => ⟨rfl, ?_⟩⟩⟩
    have lb' : Xb p1 = some (.lst (vN (List.replicate mm one))) := by rw [vN_rep]; exact lb
    obtain ⟨kb, hBb, sb, o0, f0, f1, npq, nb0, nb1⟩ := duo 0 0 _ (List.replicate mm one) x0 x1 dx0 dx1 p0 p1 H3 Xa Xa Xb k03 hB3 hx0 hdx0 hp0 ⟨ea, by rw [vN_rep]; exact la⟩ kp0 (Same.refl _) hx1 hdx1 hp1 ⟨eb, lb'⟩ kp1
    have en : ((mm : Int)).toNat = mm := by omega
    refine ⟨_, rfl, _, rfl, by show 1 ≤ sizeLine; decide, fun q2 hq2 => ⟨_, rfl, q2, _, _, rfl, rfl, upd_same, by omega, by omega, ?_, fun row hrow => ?_⟩⟩
    · rw [en]; exact Nat.le_trans (show 1 * mm ≤ 4096 by omega) (by decide)
    rw [en, rep_flat]
    refine ⟨by show 3 ≤ sizeLine; decide, fun m hm => ⟨by show 3 ≤ sizeLine; decide, fun u hu => ?_⟩⟩
    have sm := ((same_new (o := .lst [V.int (one : Int)]) hq2).trans (same_new (o := .lst (vN (List.replicate mm one))) hrow)).trans (same_new (o := .lst [.str (kname 0), .int 0, .ref row]) hm)
    exact fin 0 0 (List.replicate mm one) x0 x1 p0 p1 m row u _ _ (kb.trans (KeepP.of sm)) (hBb.same sm) (by omega) ⟨by decide, (fun z hz => by rw [List.eq_of_mem_replicate hz]; exact hone), (by rw [List.length_replicate]; omega), (fun _ => by rw [List.length_replicate]; exact hm1), (fun h => by cases h), (fun h => by cases h), by decide⟩ (fun _ => rfl) (fun h => by omega) (o0.same sm) ((show Chp cs Xb x1 p1 0 0 _ from ⟨eb, lb'⟩).same sm) f0 f1 npq nb0 nb1 ⟨upd_same, same_new hm _ _ upd_same⟩ hu
end
abbrev s_law_done : Stmt := top 45
theorem sc_law_done : FnScope ["bag", "some", "place", "writes", "one", "chip", "many", "at"] ["bag", "some"] (defScope s_law_done) := ⟨rfl, rfl, rfl, by decide +kernel, rfl, by decide +kernel, by decide +kernel⟩
section
variable {P : Program} {w : World} {K : PySem.W.Frag} {mg : Str → Option Value} {base : Heap}
structure Dat where
  x : Nat → Addr
  p : Nat → Addr
  t : Nat → Addr
  kd : Nat → Nat
  n : Nat → Nat
  sz : Nat → Nat
/-- so many chips, each of its own words, and the tuples of them -/
structure Six (cs : Nat → Addr) (m : Nat) (D : Dat) (Y : Hp) (us : Nat → List Nat) : Prop where
  o : ∀ i, i < m → Chp cs Y (D.x i) (D.p i) (D.kd i) (D.n i) (us i)
  k : ∀ i, i < m → Kd (D.kd i) (D.n i) (us i)
  hn : ∀ i, i < m → D.kd i ≠ 4 → D.n i = 0
  h1 : ∀ i, i < m → D.kd i = 2 ∨ D.kd i = 3 → (us i).length = 1
  z : ∀ i, i < m → ksize (D.kd i) (us i) = D.sz i
  t : ∀ i, i < m → Y (D.t i) = some (.tup [.ref (D.x i), .int (D.sz i : Int)])
  inj : ∀ i j, i < m → j < m → D.p i = D.p j → i = j
theorem Six.same {cs : Nat → Addr} {m : Nat} {D : Dat} {Y Z : Hp} {us : Nat → List Nat} (S : Six cs m D Y us) (s : Same Y Z) : Six cs m D Z us := ⟨fun i h => (S.o i h).same s, S.k, S.hn, S.h1, S.z, fun i h => s _ _ (S.t i h), S.inj⟩
theorem Six.keep {cs : Nat → Addr} {m : Nat} {D : Dat} {Y Z : Hp} {us : Nat → List Nat} {b : Addr} {j : Nat} (S : Six cs m D Y us) (hB : BagAt Y b j) (hb : ∀ i, i < m → b ≠ D.p i) (s : KeepP b Y Z) : Six cs m D Z us := by
  refine ⟨fun i h => ?_, S.k, S.hn, S.h1, S.z, fun i h => s _ _ (fun z => ?_) (S.t i h), S.inj⟩
  · obtain ⟨d, e⟩ := (S.o i h).ex
    exact ⟨⟨d, s _ _ (fun z => by obtain ⟨a1, b1, c1, e1, _⟩ := hB; rw [z, e1] at e; cases e) e⟩, s _ _ (Ne.symm (hb i h)) (S.o i h).ls⟩
  · obtain ⟨a1, b1, c1, e1, _⟩ := hB
    have e := S.t i h
    rw [z, e1] at e; cases e
theorem kz_wr {kd n : Nat} (us : List Nat) (c v : Nat) : ksize kd (kwr kd n us c v) = ksize kd us := by
  unfold ksize kwr
  split
  · rfl
  · split
    · rfl
    · rw [List.length_set]
theorem kz_rd {kd n : Nat} (us : List Nat) (c : Nat) (ku : Kd kd n us) : ksize kd (krd kd us c) = ksize kd us := by
  unfold ksize krd
  split
  · rfl
  · split
    · rename_i e; exact (ku.l3 e).symm
    · split
      · rename_i e1 _ e2; exact absurd e2.1 e1
      · rfl
theorem k1_of {kd : Nat} {us vs : List Nat} (h : kd = 2 ∨ kd = 3 → us.length = 1) (z : ksize kd vs = ksize kd us) : kd = 2 ∨ kd = 3 → vs.length = 1 := fun e => by
  have h' := h e
  unfold ksize at z
  rw [if_neg (by omega), if_neg (by omega)] at z
  omega
/-- the words of one have changed -/
theorem Six.put {cs : Nat → Addr} {m i : Nat} {D : Dat} {Y Z : Hp} {us : Nat → List Nat} {vs : List Nat} (S : Six cs m D Y us) (hi : i < m) (kv : Kd (D.kd i) (D.n i) vs) (hz : ksize (D.kd i) vs = ksize (D.kd i) (us i)) (e : Z (D.p i) = some (.lst (vN vs))) (k : ∀ b, b ≠ D.p i → Z b = Y b) : Six cs m D Z (fun j => if j = i then vs else us j) := by
  refine ⟨fun j h => ?_, fun j h => ?_, S.hn, fun j h => ?_, fun j h => ?_, fun j h => ?_, S.inj⟩
  · obtain ⟨d, ed⟩ := (S.o j h).ex
    have ex : Z (D.x j) = some (.ins (cs (D.kd j)) d (("head", .str (khead (D.kd j) (D.n j))) :: ("held", .ref (D.p j)) :: kext (D.kd j) (D.n j))) := by
      rw [k _ (fun z => by rw [z, (S.o i hi).ls] at ed; cases ed)]; exact ed
    by_cases q : j = i
    · subst q
      rw [if_pos rfl]
      exact ⟨⟨d, ex⟩, e⟩
    · rw [if_neg q]
      exact ⟨⟨d, ex⟩, by rw [k _ (fun z => q (S.inj j i h hi z))]; exact (S.o j h).ls⟩
  · by_cases q : j = i
    · subst q; rw [if_pos rfl]; exact kv
    · rw [if_neg q]; exact S.k j h
  · by_cases q : j = i
    · subst q; rw [if_pos rfl]; exact k1_of (S.h1 j h) hz
    · rw [if_neg q]; exact S.h1 j h
  · by_cases q : j = i
    · subst q; rw [if_pos rfl]; exact hz.trans (S.z j h)
    · rw [if_neg q]; exact S.z j h
  · rw [k _ (fun z => by have e' := S.t j h; rw [z, (S.o i hi).ls] at e'; cases e')]; exact S.t j h
def spDone (cs : Nat → Addr) : Sp := fun vs H Q _ => ∃ (b l : Addr) (j m : Nat) (is : List Nat) (D : Dat) (us : Nat → List Nat), vs = [.ref b, .ref l] ∧ BagAt H b j ∧ j + 10 < 2 ^ 30 ∧ Six cs m D H us ∧ (∀ i ∈ is, i < m) ∧ H l = some (.lst (is.map fun i => V.ref (D.t i))) ∧ l ≠ b ∧ (∀ i, i < m → b ≠ D.p i) ∧ (∀ i, i < m → l ≠ D.p i) ∧
  ∀ (us' : Nat → List Nat) (H' : Hp), Six cs m D H' us' → BagAt H' b (j + 10) → (∀ z o, z ≠ b → (∀ i, i < m → z ≠ D.p i) → H z = some o → H' z = some o) → Q .non H'
theorem ok_law_done {f : Addr} {cs : Nat → Addr} {fd : FuncData} (F : Fun K "_law_done" "_law_done" s_law_done f fd) (T : Blt mg) (G_law_draw : Cal P w K mg base 1 "_law_draw" ["bag", "many"] spDraw) (G_law_word : Cal P w K mg base 2 "_law_word" ["bag"] spWord)
    (MW : ∀ kd, kd < 5 → Mth P w K mg base 5 (cs kd) "write" [] (fun vs _ => vs) (spW25 cs kd)) (MR : ∀ kd, kd < 5 → Mth P w K mg base 5 (cs kd) "read" [] (fun vs _ => vs) (spR26 cs kd)) : FnOk P w K mg base CX0 6 f fd ["bag", "some"] (spDone cs) := by
  refine F.ok sc_law_done (fun vs H Q E h => ?_) (fun cdv A outer s H vs Q E hr h => ?_)
  · obtain ⟨b, l, j, m, is, D, us, rfl, _⟩ := h; rfl
  · obtain ⟨b, l, j, m, is, D, us, rfl, hB, hj, S, his, el, nlb, nbp, nlp, k⟩ := h
    refine ⟨_, (pss_cons (ps_set (i := 2) sc_law_done.nd rfl (Or.inl rfl) (pe_cal G_law_draw (hr.mono (by first | decide | omega)) rfl (pa_cons (pv 0) (pa_cons pe_int pa_nil))))
      (pss_cons (ps_set (i := 3) sc_law_done.nd rfl (Or.inl rfl) (pe_cmpR op_gt (pe_cal G_law_draw (hr.mono (by first | decide | omega)) rfl (pa_cons (pv 0) (pa_cons pe_int pa_nil))) pe_int (nomark _)))
      (pss_cons (ps_set (i := 4) sc_law_done.nd rfl (Or.inl rfl) (pe_cal G_law_word (hr.mono (by first | decide | omega)) rfl (pa_cons (pv 0) pa_nil)))
      (pss_one (ps_for PassesOwn.never rfl (pi_list (pv 1)) (pg_tup rfl (pgs_cons (pg_name (i := 5) sc_law_done.nd rfl (Or.inl rfl)) (pgs_cons (pg_name (i := 6) sc_law_done.nd rfl (Or.inl rfl)) pgs_nil)))
      (pss_cons (ps_set (i := 7) sc_law_done.nd rfl (Or.inl rfl) (pe_op op_mod (pv 2) (pv 6)))
      (pss_one (ps_if (pt_val (pv 3)) (pss_one (ps_expr (pe_mth 5 ⟨rfl, rfl, rfl, rfl, rfl⟩ (hr.mono (by first | decide | omega)) (pv 5) (pa_cons (pv 7) (pa_cons (pv 4) pa_nil))))) (pss_one (ps_expr (pe_mth 5 ⟨rfl, rfl, rfl, rfl, rfl⟩ (hr.mono (by first | decide | omega)) (pv 5) (pa_cons (pv 7) pa_nil)))))))))))), ?rd⟩
    refine ⟨_, rfl, b, _, _, rfl, hB, by omega, by decide, by decide, fun pl H1 hpl hB1 k1 => ?_⟩
    refine ⟨_, rfl, b, _, _, rfl, hB1, by omega, by decide, by decide, fun d2 H2 hd2 hB2 k2 => ⟨_, _, rfl, rfl, ?_⟩⟩
    refine ⟨_, rfl, b, _, rfl, hB2, by omega, fun one H3 hone hB3 k3 => ?_⟩
    have k03 : KeepP b H H3 := fun z o hz e => k3 z o hz (by rw [k2 z hz, k1 z hz]; exact e)
    have S3 := S.keep hB nbp k03
    dsimp only [gName]
    generalize hwr : decide ((d2 : Int) > 0) = wr
    refine ⟨_, rfl, l, rfl, ⟨_, SqL.of (k03 _ _ nlb el)⟩, ?_⟩
    refine for_list (K := K) (a := l) (xs := is.map fun i => V.ref (D.t i)) (fun i σ Y => ∃ (us' : Nat → List Nat) (v5 v6 v7 : Option V), σ = [some (.ref b), some (.ref l), some (.int (pl : Int)), some (.bl wr), some (.int (one : Int)), v5, v6, v7] ∧ Six cs m D Y us' ∧ BagAt Y b (j + 4) ∧ (∀ z o, z ≠ b → (∀ i, i < m → z ≠ D.p i) → H z = some o → Y z = some o))
      ⟨us, none, none, none, by rw [← hwr]; rfl, S3, hB3, fun z o hz _ e => k03 z o hz e⟩ ?_ ?_ ?_
    · rintro i σ Y hi ⟨us', v5, v6, v7, rfl, S', hBY, kY⟩
      exact SqL.of (kY _ _ nlb nlp el)
    · rintro i y σ Y hy ⟨us', v5, v6, v7, rfl, S', hBY, kY⟩
      rw [List.getElem?_map] at hy
      obtain ⟨c, hc, rfl⟩ := Option.map_eq_some_iff.mp hy
      have hcm : c < m := his c (List.mem_of_getElem? hc)
      have kc := S'.k c hcm
      have h5 := kc.k5
      have oc := S'.o c hcm
      obtain ⟨dc, ec⟩ := oc.ex
      have hsz : 0 < D.sz c := by
        rw [← S'.z c hcm]
        unfold ksize
        split
        · decide
        · rename_i e; exact kc.l1 e
      have lkn : ∀ nm : Str, (nm = "write" ∨ nm = "read") → (("head", V.str (khead (D.kd c) (D.n c))) :: ("held", V.ref (D.p c)) :: kext (D.kd c) (D.n c) : List (Str × V)).lookup nm = none := by
        intro nm hnm
        unfold kext
        rcases hnm with rfl | rfl <;> split <;> rfl
      refine ⟨D.t c, _, rfl, SqT.of (S'.t c hcm), rfl, _, _, rfl, _, _, rfl, rfl, ?_⟩
      refine ⟨_, rfl, _, rfl, _, _, rfl, rfl, (show (0 : Int) < (D.sz c : Int) by omega), ?_⟩
      have eat : (pl : Int) % (D.sz c : Int) = ((pl % D.sz c : Nat) : Int) := by omega
      have hat : pl % D.sz c < ksize (D.kd c) (us' c) := by rw [S'.z c hcm]; exact Nat.mod_lt _ hsz
      dsimp only [gName]
      refine at_st (σ' := [some (.ref b), some (.ref l), some (.int (pl : Int)), some (.bl wr), some (.int (one : Int)), some (.ref (D.x c)), some (.int (D.sz c : Int)), some (.int ((pl % D.sz c : Nat) : Int))]) (by rw [← eat]; rfl) ?_
      have go : ∀ (vs' : List Nat) (Z : Hp), Kd (D.kd c) (D.n c) vs' → ksize (D.kd c) vs' = ksize (D.kd c) (us' c) → Z (D.p c) = some (.lst (vN vs')) → (∀ z, z ≠ D.p c → Z z = Y z) →
          ∃ (us'' : Nat → List Nat) (v5' v6' v7' : Option V), [some (V.ref b), some (.ref l), some (.int (pl : Int)), some (.bl wr), some (.int (one : Int)), some (.ref (D.x c)), some (.int (D.sz c : Int)), some (.int ((pl % D.sz c : Nat) : Int))] = [some (.ref b), some (.ref l), some (.int (pl : Int)), some (.bl wr), some (.int (one : Int)), v5', v6', v7'] ∧ Six cs m D Z us'' ∧ BagAt Z b (j + 4) ∧ (∀ z o, z ≠ b → (∀ i, i < m → z ≠ D.p i) → H z = some o → Z z = some o) := by
        intro vs' Z kv hz e kz
        refine ⟨_, _, _, _, rfl, S'.put hcm kv hz e kz, ?_, fun z o hz hp e' => by rw [kz z (hp c hcm)]; exact kY z o hz hp e'⟩
        obtain ⟨a1, b1, c1, g1, g2⟩ := hBY
        exact ⟨a1, b1, c1, by rw [kz b (nbp c hcm)]; exact g1, g2⟩
      refine ⟨_, rfl, _, rfl, ?_⟩
      cases hw : wr with
      | true =>
        rw [hw] at go
        refine iteT ?_
        refine ⟨_, rfl, D.x c, cs (D.kd c), dc, _, _, _, rfl, ec, MW _ h5, lkn _ (.inl rfl), _, rfl, _, rfl, D.x c, D.p c, D.n c, _, one, us' c, rfl, oc, kc, hat, hone, fun Z e kz => ?_⟩
        exact go _ Z (kc.wr hone) (kz_wr _ _ _) e kz
      | false =>
        rw [hw] at go
        refine iteF ?_
        refine ⟨_, rfl, D.x c, cs (D.kd c), dc, _, _, _, rfl, ec, MR _ h5, lkn _ (.inr rfl), _, rfl, D.x c, D.p c, D.n c, _, us' c, rfl, oc, kc, hat, fun Z e kz => ?_⟩
        exact go _ Z kc.rd (kz_rd _ _ kc) e kz
    · rintro σ Y ⟨us', v5, v6, v7, rfl, S', hBY, kY⟩
      exact k us' Y S' (hBY.mono (by omega)) kY
end
abbrev slaw : Stmt := top 47
theorem sclaw : FnScope ["script", "head", "chips", "k", "one", "other", "model", "bag", "at", "place", "j"] ["script"] (defScope slaw) := ⟨rfl, rfl, rfl, by decide +kernel, rfl, by decide +kernel, by decide +kernel⟩
section
variable {P : Program} {w : World} {K : PySem.W.Frag} {mg : Str → Option Value} {base : Heap}
def ext2 {α : Type} (f : Nat → α) (m : Nat) (a b : α) : Nat → α := fun i => if i = m then a else if i = m + 1 then b else f i
theorem ext2_lt {α : Type} {f : Nat → α} {m i : Nat} {a b : α} (h : i < m) : ext2 f m a b i = f i := by unfold ext2; rw [if_neg (by omega), if_neg (by omega)]
theorem ext2_0 {α : Type} {f : Nat → α} {m : Nat} {a b : α} : ext2 f m a b m = a := by unfold ext2; rw [if_pos rfl]
theorem ext2_1 {α : Type} {f : Nat → α} {m : Nat} {a b : α} : ext2 f m a b (m + 1) = b := by unfold ext2; rw [if_neg (by omega), if_pos rfl]
def Dat.more (D : Dat) (m : Nat) (x y p q t1 t2 : Addr) (kd n z : Nat) : Dat := ⟨ext2 D.x m x y, ext2 D.p m p q, ext2 D.t m t1 t2, ext2 D.kd m kd kd, ext2 D.n m n n, ext2 D.sz m z z⟩
theorem all2 {m : Nat} {P : Nat → Prop} (h : ∀ i, i < m → P i) (h0 : P m) (h1 : P (m + 1)) : ∀ i, i < m + 2 → P i := fun i hi => by
  by_cases e : i < m
  · exact h i e
  · rcases (show i = m ∨ i = m + 1 by omega) with rfl | rfl
    · exact h0
    · exact h1
theorem Six.more {cs : Nat → Addr} {m : Nat} {D : Dat} {Y : Hp} {us : Nat → List Nat} {x y p q t1 t2 : Addr} {kd n : Nat} {ws : List Nat} (S : Six cs m D Y us) (ox : Chp cs Y x p kd n ws) (oy : Chp cs Y y q kd n ws) (kk : Kd kd n ws) (hn : kd ≠ 4 → n = 0) (h1 : kd = 2 ∨ kd = 3 → ws.length = 1)
    (npq : p ≠ q) (np : ∀ i, i < m → D.p i ≠ p) (nq : ∀ i, i < m → D.p i ≠ q) (e1 : Y t1 = some (.tup [.ref x, .int (ksize kd ws : Int)])) (e2 : Y t2 = some (.tup [.ref y, .int (ksize kd ws : Int)])) :
    Six cs (m + 2) (D.more m x y p q t1 t2 kd n (ksize kd ws)) Y (ext2 us m ws ws) := by
  unfold Dat.more
  refine ⟨all2 (fun i h => ?_) ?_ ?_, all2 (fun i h => ?_) ?_ ?_, all2 (fun i h => ?_) ?_ ?_, all2 (fun i h => ?_) ?_ ?_, all2 (fun i h => ?_) ?_ ?_, all2 (fun i h => ?_) ?_ ?_, ?_⟩
  · simp only [ext2_lt h]; exact S.o i h
  · simp only [ext2_0]; exact ox
  · simp only [ext2_1]; exact oy
  · simp only [ext2_lt h]; exact S.k i h
  · simp only [ext2_0]; exact kk
  · simp only [ext2_1]; exact kk
  · simp only [ext2_lt h]; exact S.hn i h
  · simp only [ext2_0]; exact hn
  · simp only [ext2_1]; exact hn
  · simp only [ext2_lt h]; exact S.h1 i h
  · simp only [ext2_0]; exact h1
  · simp only [ext2_1]; exact h1
  · simp only [ext2_lt h]; exact S.z i h
  · simp only [ext2_0]
  · simp only [ext2_1]
  · simp only [ext2_lt h]; exact S.t i h
  · simp only [ext2_0]; exact e1
  · simp only [ext2_1]; exact e2
  · show ∀ i j, i < m + 2 → j < m + 2 → ext2 D.p m p q i = ext2 D.p m p q j → i = j
    intro i j hi hj
    by_cases ei : i < m
    · rw [ext2_lt ei]
      by_cases ej : j < m
      · rw [ext2_lt ej]; exact S.inj i j ei ej
      · rcases (show j = m ∨ j = m + 1 by omega) with rfl | rfl
        · rw [ext2_0]; exact fun z => absurd z (np i ei)
        · rw [ext2_1]; exact fun z => absurd z (nq i ei)
    · by_cases ej : j < m
      · rw [ext2_lt ej]
        rcases (show i = m ∨ i = m + 1 by omega) with rfl | rfl
        · rw [ext2_0]; exact fun z => absurd z.symm (np j ej)
        · rw [ext2_1]; exact fun z => absurd z.symm (nq j ej)
      · have hi' : i = m ∨ i = m + 1 := by omega
        have hj' : j = m ∨ j = m + 1 := by omega
        rcases hi' with hi' | hi' <;> rcases hj' with hj' | hj' <;> rw [hi', hj']
        · intro _; rfl
        · rw [ext2_0, ext2_1]; exact fun z => absurd z npq
        · rw [ext2_0, ext2_1]; exact fun z => absurd z.symm npq
        · intro _; rfl
theorem more_list (D : Dat) (m : Nat) (x y p q t1 t2 : Addr) (kd n z : Nat) : (List.range (m + 2)).map (fun i => V.ref ((D.more m x y p q t1 t2 kd n z).t i)) = ((List.range m).map fun i => V.ref (D.t i)) ++ [.ref t1, .ref t2] := by
  show (List.range (m + 2)).map (fun i => V.ref (ext2 D.t m t1 t2 i)) = _
  rw [List.range_succ, List.range_succ, List.map_append, List.map_append, List.append_assoc]
  congr 1
  · exact List.map_congr_left fun i hi => by rw [ext2_lt (List.mem_range.mp hi)]
  · simp only [List.map_cons, List.map_nil, ext2_0, ext2_1]; rfl
theorem oklaw {f : Addr} {cs : Nat → Addr} {fd : FuncData} (F : Fun K "law" "law" slaw f fd) (T : Blt mg) (G_law_bag : Cal P w K mg base 1 "_law_bag" ["seed", "place"] spBag) (G_law_cell_at : Cal P w K mg base 1 "_law_cell_at" ["script", "k"] (spCellAt K)) (G_law_draw : Cal P w K mg base 1 "_law_draw" ["bag", "many"] spDraw)
    (G_law_pair : Cal P w K mg base 5 "_law_pair" ["bag"] (spPair cs)) (G_law_size : Cal P w K mg base 1 "_law_size" ["model"] spSize) (G_law_done : Cal P w K mg base 6 "_law_done" ["bag", "some"] (spDone cs)) (G_law_agree : Cal P w K mg base 8 "_law_agree" ["place", "one", "other"] (spAgree cs)) : FnOk P w K mg base CX0 9 f fd ["script"] (spLaw K) := by
  refine F.ok sclaw (fun vs H Q E h => ?_) (fun cdv A outer s H vs Q E hr h => ?_)
  · obtain ⟨a, ns, rfl, _⟩ := h; rfl
  · obtain ⟨a, ns, rfl, hS, hlen, hbits, k⟩ := h
    refine' ⟨_, (pss_cons (ps_set (i := 1) sclaw.nd rfl (Or.inl rfl) (pe_cal G_law_bag (hr.mono (by first | decide | omega)) rfl (pa_cons (pe_cal G_law_cell_at (hr.mono (by first | decide | omega)) rfl (pa_cons (pv 0) (pa_cons pe_int pa_nil))) (pa_cons pe_int pa_nil))))
      (pss_cons (ps_set (i := 2) sclaw.nd rfl (Or.inl rfl) (pe_lst pa_nil))
      (pss_cons (ps_for PassesOwn.never rfl (pi_range1 rfl T.range (pa_cons pe_int pa_nil)) (pg_name (i := 3) sclaw.nd rfl (Or.inl rfl))
      (pss_cons (ps_asg (pe_cal G_law_pair (hr.mono (by first | decide | omega)) rfl (pa_cons (pv 1) pa_nil)) (pg_tup rfl (pgs_cons (pg_name (i := 4) sclaw.nd rfl (Or.inl rfl)) (pgs_cons (pg_name (i := 5) sclaw.nd rfl (Or.inl rfl)) (pgs_cons (pg_name (i := 6) sclaw.nd rfl (Or.inl rfl)) pgs_nil)))))
      (pss_one (ps_set (i := 2) sclaw.nd rfl (Or.inl rfl) (pe_op op_catS (pv 2) (pe_lst (pa_cons (pe_tup (pa_cons (pv 4) (pa_cons (pe_cal G_law_size (hr.mono (by first | decide | omega)) rfl (pa_cons (pv 6) pa_nil)) pa_nil))) (pa_cons (pe_tup (pa_cons (pv 5) (pa_cons (pe_cal G_law_size (hr.mono (by first | decide | omega)) rfl (pa_cons (pv 6) pa_nil)) pa_nil))) pa_nil))))))))
      (pss_cons (ps_for PassesOwn.never rfl (pi_range2 rfl T.range (pa_cons pe_int (pa_cons (pe_callB (call_max2 rfl) (by rfl) T.max PyProof.Rows.boot_max (pa_cons pe_int (pa_cons (pe_callB (call_min2 rfl) (by rfl) T.min PyProof.Rows.boot_min (pa_cons (pe_callB call_len_seq (by rfl) T.len PySem.boot_len (pa_cons (pv 0) pa_nil)) (pa_cons pe_int pa_nil))) pa_nil))) pa_nil))) (pg_name (i := 3) sclaw.nd rfl (Or.inl rfl))
      (pss_cons (ps_set (i := 7) sclaw.nd rfl (Or.inl rfl) (pe_cal G_law_bag (hr.mono (by first | decide | omega)) rfl (pa_cons (pe_cal G_law_cell_at (hr.mono (by first | decide | omega)) rfl (pa_cons (pv 0) (pa_cons (pv 3) pa_nil))) (pa_cons (pv 3) pa_nil))))
      (pss_cons (ps_set (i := 8) sclaw.nd rfl (Or.inl rfl) (pe_cal G_law_draw (hr.mono (by first | decide | omega)) rfl (pa_cons (pv 7) (pa_cons pe_int pa_nil))))
      (pss_cons (ps_if (pt_cmpR op_eq (pe_cal G_law_draw (hr.mono (by first | decide | omega)) rfl (pa_cons (pv 7) (pa_cons pe_int pa_nil))) pe_int (nomark _)) (pss_one (ps_expr (pe_cal G_law_done (hr.mono (by first | decide | omega)) rfl (pa_cons (pv 7) (pa_cons (pe_slice sl_list (pv 2) (po_some (pe_op op_mulB (pe_op op_fdivB (pv 8) pe_int) pe_int)) (po_some (pe_op op_add (pe_op op_mulB (pe_op op_fdivB (pv 8) pe_int) pe_int) pe_int))) pa_nil))))) (pss_one (ps_expr (pe_cal G_law_done (hr.mono (by first | decide | omega)) rfl (pa_cons (pv 7) (pa_cons (pe_lst (pa_cons (pe_ix ix_list (pv 2) (pv 8) (fun _ _ => rfl)) pa_nil)) pa_nil))))))
      (pss_cons (ps_set (i := 9) sclaw.nd rfl (Or.inl rfl) (pe_cal G_law_draw (hr.mono (by first | decide | omega)) rfl (pa_cons (pv 7) (pa_cons pe_int pa_nil))))
      (pss_one (ps_for PassesOwn.never rfl (pi_range1 rfl T.range (pa_cons pe_int pa_nil)) (pg_name (i := 10) sclaw.nd rfl (Or.inl rfl))
      (pss_one (ps_if (pt_not (pt_val (pe_cal G_law_agree (hr.mono (by first | decide | omega)) rfl (pa_cons (pv 9) (pa_cons (pe_ix ix_tup (pe_ix ix_list (pv 2) (pv 8) (fun _ _ => rfl)) pe_int (fun _ _ => rfl)) (pa_cons (pe_ix ix_tup (pe_ix ix_list (pv 2) (pv 10) (fun _ _ => rfl)) pe_int (fun _ _ => rfl)) pa_nil)))))) (pss_one (ps_ret pe_bl)) pss_nil)))))))))
      (pss_one (ps_ret (pe_callB (call_allL rfl) (by rfl) T.all bt_all (pa_cons ?c1 pa_nil)))))))), ?rd⟩
    (case c1 => exact (pe_comp (Nc := ["one", "other"]) [none, none] rfl (compOk_of (by rfl)) (pi_zipB rfl T.zip (pa_cons (pv 2) (pa_cons (pe_slice sl_list (pv 2) (po_some pe_int) po_none) pa_nil))) (fun _ _ _ _ _ => (pg_tupE 2 (K := K) rfl rfl (pgs_cons (pg_name (i := 0) (show (["one", "other"] : List Str).Nodup by decide +kernel) rfl (Or.inl rfl)) (pgs_cons (pg_name (i := 1) (show (["one", "other"] : List Str).Nodup by decide +kernel) rfl (Or.inl rfl)) pgs_nil)))) (fun _ _ _ _ _ => pf_nil) (fun _ _ _ _ _ => (pe_cal G_law_agree (hr.mono (by first | decide | omega)) rfl (pa_cons pe_int (pa_cons (pe_ix (ix_tupE (K := K) rfl) (pv 0) pe_int (fun _ _ => rfl)) (pa_cons (pe_ix (ix_tupE (K := K) rfl) (pv 1) pe_int (fun _ _ => rfl)) pa_nil)))))))
    refine ⟨_, rfl, a, ns, 0, rfl, hS, hbits, fun c0 hc0 => ?_⟩
    refine ⟨c0, 0, rfl, hc0, by decide, fun hb H1 hhb hB1 s1 => ?_⟩
    refine ⟨by show 0 ≤ sizeLine; decide, fun L0 hL0 => ?_⟩
    have sL0 : Same H1 (upd H1 L0 (.lst [])) := same_new hL0
    refine ⟨3, rfl, by decide, by decide, ?_⟩
    refine for_range (n := 3) (fun i σ Y => ∃ (L : Addr) (D : Dat) (us : Nat → List Nat) (v3 v4 v5 v6 : Option V), σ = [some (.ref a), some (.ref hb), some (.ref L), v3, v4, v5, v6, none, none, none, none] ∧ Six cs (2 * i) D Y us ∧ Y L = some (.lst ((List.range (2 * i)).map fun i => V.ref (D.t i))) ∧ BagAt Y hb (100 * i) ∧ L ≠ hb ∧ (∀ j, j < 2 * i → hb ≠ D.p j) ∧ (∀ j, j < 2 * i → L ≠ D.p j) ∧ (∀ j, j < 2 * i → H (D.p j) = none) ∧ Same H Y)
      ⟨L0, ⟨fun _ => 0, fun _ => 0, fun _ => 0, fun _ => 0, fun _ => 0, fun _ => 0⟩, fun _ => [], none, none, none, none, rfl, ⟨(fun i h => by omega), (fun i h => by omega), (fun i h => by omega), (fun i h => by omega), (fun i h => by omega), (fun i h => by omega), (fun i j h => by omega)⟩, upd_same, hB1.same sL0, hB1.ne hL0, (fun i h => by omega), (fun i h => by omega), (fun i h => by omega), s1.trans sL0⟩ ?_ ?_
    · rintro i σ Y hi ⟨L, D, us, v3, v4, v5, v6, rfl, S, eL, hBY, nLb, nbp, nLp, fH, sY⟩
      refine ⟨_, rfl, hb, _, rfl, hBY, by omega, fun u x y p q m row kd n ws Y1 eu ox oy d kk hn h1 fp fq npq nb1 nb2 hBY1 kY1 => ?_⟩
      have h5 := kk.k5
      refine ⟨u, _, rfl, SqT.of eu, rfl, _, _, rfl, _, _, rfl, _, _, rfl, rfl, ?_⟩
      dsimp only [gName]
      have S1 := S.keep hBY nbp kY1
      have sY1 : Same H Y1 := fun z o e => kY1 z o (ne_of_none e hhb) (sY z o e)
      refine ⟨_, rfl, _, rfl, _, rfl, m, row, kd, n, ws, rfl, d, h5, by show 2 ≤ sizeLine; decide, fun t1 ht1 => ?_⟩
      have u1 : Same Y1 (upd Y1 t1 (.tup [.ref x, .int (ksize kd ws : Int)])) := same_new ht1
      refine ⟨_, rfl, _, rfl, m, row, kd, n, ws, rfl, d.same u1, h5, by show 2 ≤ sizeLine; decide, fun t2 ht2 => ?_⟩
      have u2 : Same _ (upd (upd Y1 t1 (.tup [.ref x, .int (ksize kd ws : Int)])) t2 (.tup [.ref y, .int (ksize kd ws : Int)])) := same_new ht2
      refine ⟨by show 2 ≤ sizeLine; decide, fun l2 hl2 => ?_⟩
      have u3 := (u1.trans u2).trans (same_new (o := .lst [.ref t1, .ref t2]) hl2)
      refine ⟨L, l2, _, _, rfl, rfl, SqL.of (u3 _ _ (kY1 _ _ nLb eL)), SqL.of upd_same, ?_, fun L' hL' => ?_⟩
      · rw [List.length_map, List.length_range]; exact Nat.le_trans (show 2 * i + 2 ≤ 10 by omega) (by decide)
      have u4 := u3.trans (same_new (o := .lst (((List.range (2 * i)).map fun i => V.ref (D.t i)) ++ [.ref t1, .ref t2])) hL')
      have et1 := same_new (o := .lst (((List.range (2 * i)).map fun i => V.ref (D.t i)) ++ [.ref t1, .ref t2])) hL' _ _ (same_new (o := .lst [.ref t1, .ref t2]) hl2 _ _ (u2 _ _ upd_same))
      have et2 := same_new (o := .lst (((List.range (2 * i)).map fun i => V.ref (D.t i)) ++ [.ref t1, .ref t2])) hL' _ _ (same_new (o := .lst [.ref t1, .ref t2]) hl2 _ _ upd_same)
      have np : ∀ j, j < 2 * i → D.p j ≠ p := fun j hj z => by have e := (S.o j hj).ls; rw [z, fp] at e; cases e
      have nq : ∀ j, j < 2 * i → D.p j ≠ q := fun j hj z => by have e := (S.o j hj).ls; rw [z, fq] at e; cases e
      have fre : ∀ {z : Addr}, Y z = none → H z = none := fun {z} e => by
        cases e' : H z with
        | none => rfl
        | some o => rw [sY _ _ e'] at e; cases e
      refine ⟨L', D.more (2 * i) x y p q t1 t2 kd n (ksize kd ws), ext2 us (2 * i) ws ws, _, _, _, _, rfl, (S1.same u4).more (ox.same u4) (oy.same u4) kk hn h1 npq np nq et1 et2, ?_, (hBY1.same u4).mono (by omega), (hBY1.same u3).ne hL', ?_, ?_, ?_, sY1.trans u4⟩
      · rw [upd_same, show 2 * (i + 1) = 2 * i + 2 by omega, more_list]
      · exact all2 (m := 2 * i) (fun j h => by show hb ≠ ext2 D.p _ p q j; rw [ext2_lt h]; exact nbp j h) (by show hb ≠ ext2 D.p _ p q _; rw [ext2_0]; exact nb1) (by show hb ≠ ext2 D.p _ p q _; rw [ext2_1]; exact nb2)
      · exact all2 (m := 2 * i) (fun j h => by show L' ≠ ext2 D.p _ p q j; rw [ext2_lt h]; exact fun z => by rw [z, u3 _ _ (S1.o j h).ls] at hL'; cases hL') (by show L' ≠ ext2 D.p _ p q _; rw [ext2_0]; exact fun z => by rw [z, u3 _ _ ox.ls] at hL'; cases hL') (by show L' ≠ ext2 D.p _ p q _; rw [ext2_1]; exact fun z => by rw [z, u3 _ _ oy.ls] at hL'; cases hL')
      · exact all2 (m := 2 * i) (fun j h => by show H (ext2 D.p _ p q j) = none; rw [ext2_lt h]; exact fH j h) (by show H (ext2 D.p _ p q _) = none; rw [ext2_0]; exact fre fp) (by show H (ext2 D.p _ p q _) = none; rw [ext2_1]; exact fre fq)
    rintro σ Y ⟨L, D, us, v3, v4, v5, v6, rfl, S, eL, hBY, nLb, nbp, nLp, fH, sY⟩
    have hSt : ∀ {X : Hp}, Same H X → SqL K X a (ns.map V.int) := fun {X} sx => sx.seq hS
    obtain ⟨n, hn, en⟩ : ∃ n : Nat, n ≤ 49 ∧ (if (if (50 : Int) < ((ns.map V.int).length : Int) then (50 : Int) else ((ns.map V.int).length : Int)) > 2 then (if (50 : Int) < ((ns.map V.int).length : Int) then (50 : Int) else ((ns.map V.int).length : Int)) else 2) = ((n + 1 : Nat) : Int) := by
      rw [List.length_map]
      refine ⟨max 2 (min ns.length 50) - 1, by omega, ?_⟩
      split <;> split at * <;> omega
    dsimp only
    refine ⟨_, rfl, a, _, rfl, .inl (hSt sY), _, _, rfl, _, _, rfl, 1, ((n + 1 : Nat) : Int), congrArg (fun z => [V.int 1, V.int z]) en, ⟨by decide, by decide, by omega, by omega⟩, ?_⟩
    rw [show (((n + 1 : Nat) : Int) - 1).toNat = n by omega]
    have tat : ∀ c : Nat, c < 6 → ((List.range (2 * 3)).map fun i => V.ref (D.t i))[c]? = some (V.ref (D.t c)) := fun c hc => by
      rw [List.getElem?_map, List.getElem?_range (by omega)]; rfl
    refine for_range (n := n) (fun i σ X => ∃ (us : Nat → List Nat) (v3 v7 v8 v9 v10 : Option V), σ = [some (.ref a), some (.ref hb), some (.ref L), v3, v4, v5, v6, v7, v8, v9, v10] ∧ Six cs 6 D X us ∧ X L = some (.lst ((List.range (2 * 3)).map fun i => V.ref (D.t i))) ∧ Same H X) ⟨us, v3, none, none, none, none, rfl, S, eL, sY⟩ ?_ ?_
    · rintro i σ X hi ⟨us, v3, v7, v8, v9, v10, rfl, S, eL, sX⟩
      have ei : (1 : Int) + (i : Int) = ((1 + i : Nat) : Int) := by omega
      refine ⟨_, rfl, _, rfl, a, ns, 1 + i, by rw [ei]; rfl, hSt sX, hbits, fun cl hcl => ?_⟩
      refine ⟨_, rfl, cl, 1 + i, by rw [ei]; rfl, hcl, by omega, fun pb X2 hpb hB2 sX2 => ?_⟩
      have nLpb : L ≠ pb := ne_of_none eL hpb
      have nbp2 : ∀ c, c < 6 → pb ≠ D.p c := fun c hc z => by rw [z, (S.o c hc).ls] at hpb; cases hpb
      have S2 := S.same sX2
      refine ⟨_, rfl, pb, _, _, rfl, hB2, by omega, by decide, by decide, fun at_ X3 hat hB3 k3 => ?_⟩
      have hat6 : at_ < 6 := by omega
      have kb3 : KeepP pb X2 X3 := fun z o hz e => by rw [k3 z hz]; exact e
      have S3 := S2.keep hB2 nbp2 kb3
      have eL3 : X3 L = some (.lst ((List.range (2 * 3)).map fun i => V.ref (D.t i))) := kb3 _ _ nLpb (sX2 _ _ eL)
      dsimp only [gName]
      -- behind the deed
      refine seq_step (fun σ Z => σ = [some (.ref a), some (.ref hb), some (.ref L), some (.int (1 + (i : Int))), v4, v5, v6, some (.ref pb), some (.int (at_ : Int)), v9, v10] ∧ Z = X3) (fun σ Z => ∃ us', σ = [some (.ref a), some (.ref hb), some (.ref L), some (.int (1 + (i : Int))), v4, v5, v6, some (.ref pb), some (.int (at_ : Int)), v9, v10] ∧ Six cs 6 D Z us' ∧ BagAt Z pb (100 + i) ∧ (∀ z o, z ≠ pb → (∀ c, c < 6 → z ≠ D.p c) → X3 z = some o → Z z = some o)) ?_ ?_ _ _ ⟨rfl, rfl⟩
      · rintro σ Z ⟨rfl, rfl⟩ N hN
        refine ⟨_, rfl, pb, _, _, rfl, hB3, by omega, by decide, by decide, fun d2 X4 hd2 hB4 k4 => ⟨rfl, _, rfl, ?_⟩⟩
        have kb4 : KeepP pb Z X4 := fun z o hz e => by rw [k4 z hz]; exact e
        have S4 := S3.keep hB3 nbp2 kb4
        have eL4 := kb4 _ _ nLpb eL3
        have fin : ∀ (is : List Nat) (l : Addr) (X5 : Hp), Same X4 X5 → X4 l = none → X5 l = some (.lst (is.map fun i => V.ref (D.t i))) → (∀ c ∈ is, c < 6) →
            spDone cs [.ref pb, .ref l] X5 (fun _ H' => N [some (.ref a), some (.ref hb), some (.ref L), some (.int (1 + (i : Int))), v4, v5, v6, some (.ref pb), some (.int (at_ : Int)), v9, v10] H') E0 := by
          intro is l X5 s5 hl el his
          refine ⟨pb, l, _, 6, is, D, us, rfl, hB4.same s5, by omega, S4.same s5, his, el, hB4.ne hl, nbp2, (fun c hc z => by rw [z, (S4.o c hc).ls] at hl; cases hl), fun us' Z' S' hBZ' kZ' => ?_⟩
          exact hN _ _ ⟨us', rfl, S', hBZ'.mono (by omega), fun z o hz hp e => kZ' z o hz hp (s5 _ _ (kb4 z o hz e))⟩
        refine ite2 (fun _ => ?_) (fun _ => ?_)
        · have cut : cutV ((List.range (2 * 3)).map fun i => V.ref (D.t i)) (some ((at_ : Int) / 2 * 2)) (some ((at_ : Int) / 2 * 2 + 2)) = [2 * (at_ / 2), 2 * (at_ / 2) + 1].map fun i => V.ref (D.t i) := by
            rcases (show at_ = 0 ∨ at_ = 1 ∨ at_ = 2 ∨ at_ = 3 ∨ at_ = 4 ∨ at_ = 5 by omega) with rfl | rfl | rfl | rfl | rfl | rfl <;> rfl
          have mo : IntMulOk ((at_ : Int) / 2) 2 := mul_ok (Nat.lt_of_lt_of_le (show ((at_ : Int) / 2).natAbs < 8 by omega) (by decide)) (by decide)
          refine ⟨_, rfl, _, rfl, _, rfl, _, _, rfl, rfl, ⟨by decide, by decide +kernel⟩, _, _, rfl, rfl, mo, _, rfl, _, rfl, _, _, rfl, rfl, ⟨by decide, by decide +kernel⟩, _, _, rfl, rfl, mo, _, _, rfl, rfl, _, rfl, L, _, rfl, SqL.of eL4, fun l hl => ?_⟩
          rw [cut]
          exact fin _ l _ (same_new hl) hl upd_same (fun c hc => by simp at hc; omega)
        · refine ⟨_, rfl, _, rfl, _, rfl, L, _, _, _, rfl, rfl, SqL.of eL4, atI_nat (tat at_ hat6), by show 1 ≤ sizeLine; decide, fun l hl => ?_⟩
          exact fin [at_] l _ (same_new hl) hl upd_same (fun c hc => by rw [List.mem_singleton.mp hc]; exact hat6)
      rintro σ Z ⟨us', rfl, SZ, hBZ, kZ⟩
      have sZ : Same H Z := fun z o e => kZ z o (ne_of_none (sX z o e) hpb) (fun c hc => ne_of_none e (fH c (by omega))) (kb3 z o (ne_of_none (sX z o e) hpb) (sX2 z o (sX z o e)))
      have eLZ : Z L = some (.lst ((List.range (2 * 3)).map fun i => V.ref (D.t i))) := kZ _ _ nLpb (fun c hc => nLp c (by omega)) eL3
      refine ⟨_, rfl, pb, _, _, rfl, hBZ, by omega, by decide, by decide, fun pl Z2 hpl hBZ2 kZ2 => ?_⟩
      have kbZ : KeepP pb Z Z2 := fun z o hz e => by rw [kZ2 z hz]; exact e
      have SZ2 := SZ.keep hBZ nbp2 kbZ
      have eLZ2 := kbZ _ _ nLpb eLZ
      have sZ2 : Same H Z2 := fun z o e => kbZ z o (ne_of_none (sX z o e) hpb) (sZ z o e)
      dsimp only [gName]
      refine ⟨6, rfl, by decide, by decide, ?_⟩
      refine for_range (n := 6) (fun jj σ W => ∃ v10, σ = [some (.ref a), some (.ref hb), some (.ref L), some (.int (1 + (i : Int))), v4, v5, v6, some (.ref pb), some (.int (at_ : Int)), some (.int (pl : Int)), v10] ∧ Same Z2 W) ⟨v10, rfl, Same.refl _⟩ ?_ ?_
      · rintro jj σ W hjj ⟨v10, rfl, sW⟩
        have ej : (0 : Int) + (jj : Int) = (jj : Int) := Int.zero_add _
        have SW := SZ2.same sW
        have eLW := sW _ _ eLZ2
        refine ⟨_, rfl, _, rfl, _, rfl, L, _, _, _, rfl, rfl, SqL.of eLW, atI_nat (tat at_ hat6), D.t at_, _, _, _, rfl, rfl, SqT.of (SW.t at_ hat6), rfl, ?_⟩
        refine ⟨_, rfl, _, rfl, L, _, _, _, rfl, rfl, SqL.of eLW, by rw [ej]; exact atI_nat (tat jj hjj), D.t jj, _, _, _, rfl, rfl, SqT.of (SW.t jj hjj), rfl, ?_⟩
        refine ⟨D.x at_, D.p at_, D.x jj, D.p jj, pl, _, _, _, _, _, _, rfl, SW.o at_ hat6, SW.o jj hjj, SW.k at_ hat6, SW.k jj hjj, SW.hn at_ hat6, SW.hn jj hjj, SW.h1 at_ hat6, SW.h1 jj hjj, fun W2 s2 => ⟨_, rfl, iteF ?_⟩⟩
        exact ⟨_, rfl, sW.trans s2⟩
      · rintro σ W ⟨v10, rfl, sW⟩
        exact ⟨us', _, _, _, _, _, rfl, SZ2.same sW, sW _ _ eLZ2, sZ2.trans sW⟩
    · rintro σ X ⟨us, v3, v7, v8, v9, v10, rfl, S, eL, sX⟩
      refine ⟨_, rfl, _, rfl, _, rfl, L, _, rfl, SqL.of eL, fun L2 hL2 => ?_⟩
      have cut : cutV ((List.range (2 * 3)).map fun i => V.ref (D.t i)) (some 1) none = [1, 2, 3, 4, 5].map fun i => V.ref (D.t i) := rfl
      rw [cut]
      have s2 : Same X (upd X L2 (.lst ([1, 2, 3, 4, 5].map fun i => V.ref (D.t i)))) := same_new hL2
      refine ⟨false, L, L2, _, _, rfl, SqX.lst (s2 _ _ eL), SqX.lst upd_same, ?_⟩
      have eL2 : upd X L2 (.lst ([1, 2, 3, 4, 5].map fun i => V.ref (D.t i))) L2 = some (.lst ([1, 2, 3, 4, 5].map fun i => V.ref (D.t i))) := upd_same
      generalize upd X L2 (.lst ([1, 2, 3, 4, 5].map fun i => V.ref (D.t i))) = Y2 at s2 eL2 ⊢
      have S2 := S.same s2
      refine comp_zipB (t := false) (a := L) (b := L2) (xs := (List.range (2 * 3)).map fun i => V.ref (D.t i)) (ys := [1, 2, 3, 4, 5].map fun i => V.ref (D.t i)) (fun i rs σ W => (∃ v0 v1, σ = [v0, v1]) ∧ rs = (List.replicate i true).map V.bl ∧ Same Y2 W) rfl (show 5 ≤ sizeLine by decide) ⟨⟨none, none, rfl⟩, rfl, Same.refl _⟩ ?_ ?_ ?_
      · rintro i rs σ W hi ⟨_, rfl, sW⟩
        exact ⟨SqX.lst (sW _ _ (s2 _ _ eL)), SqX.lst (sW _ _ eL2), by rw [List.length_map, List.length_replicate]; exact Nat.le_refl _⟩
      · rintro i x y t rs σ W hx hy ht ⟨⟨v0, v1, rfl⟩, rfl, sW⟩
        have hi : i < 5 := by
          have := (List.getElem?_eq_some_iff.mp hy).1
          simpa using this
        obtain rfl : x = V.ref (D.t i) := by rw [tat i (by omega)] at hx; exact (Option.some.inj hx).symm
        obtain rfl : y = V.ref (D.t (i + 1)) := by
          rw [List.getElem?_map] at hy
          rcases (show i = 0 ∨ i = 1 ∨ i = 2 ∨ i = 3 ∨ i = 4 by omega) with rfl | rfl | rfl | rfl | rfl <;> exact (Option.some.inj hy).symm
        have sT : Same W (upd W t (.tup [.ref (D.t i), .ref (D.t (i + 1))])) := same_new ht
        have SW := S2.same (sW.trans sT)
        refine ⟨t, _, rfl, SqT.of upd_same, rfl, _, _, rfl, _, _, rfl, rfl, ?_⟩
        refine ⟨_, rfl, D.t i, _, _, _, rfl, rfl, SqT.of (SW.t i (by omega)), rfl, _, rfl, D.t (i + 1), _, _, _, rfl, rfl, SqT.of (SW.t (i + 1) (by omega)), rfl, ?_⟩
        refine ⟨D.x i, D.p i, D.x (i + 1), D.p (i + 1), 0, _, _, _, _, _, _, rfl, SW.o i (by omega), SW.o (i + 1) (by omega), SW.k i (by omega), SW.k (i + 1) (by omega), SW.hn i (by omega), SW.hn (i + 1) (by omega), SW.h1 i (by omega), SW.h1 (i + 1) (by omega), fun W2 s3 => ?_⟩
        exact ⟨⟨_, _, rfl⟩, by rw [List.replicate_succ', List.map_append]; rfl, (sW.trans sT).trans s3⟩
      · rintro rs σ W ⟨_, rfl, sW⟩ R hR
        refine ⟨R, _, rfl, SqL.of upd_same, ?_⟩
        rw [trues]
        exact k _
end
theorem all_mk {l : PySem.W.OpenLaw} {w : World} {K : PySem.W.Frag} {h : Heap} {mg : Str → Option Value} {fa : Addr} (X : K.In h) (G : h.Ns mainGlobals mg) (hfa : mg "law" = some (.ref fa))
    {f_is_number : Addr} {oc_is_number : Value} {kV_is_number : Value} {dc_is_number : Value} {pm_is_number : Value} {cd_is_number : Value} {ct_is_number : Value} {od_is_number : Option Addr} {an_is_number : Option Addr} {sl_is_number : Array (Option Value)}
    {f_is_word : Addr} {oc_is_word : Value} {kV_is_word : Value} {dc_is_word : Value} {pm_is_word : Value} {cd_is_word : Value} {ct_is_word : Value} {od_is_word : Option Addr} {an_is_word : Option Addr} {sl_is_word : Array (Option Value)}
    {f_check_word : Addr} {oc_check_word : Value} {kV_check_word : Value} {dc_check_word : Value} {pm_check_word : Value} {cd_check_word : Value} {ct_check_word : Value} {od_check_word : Option Addr} {an_check_word : Option Addr} {sl_check_word : Array (Option Value)}
    {C_Chip : Addr}
    {f_cm_Chip___init__ : Addr} {oc_cm_Chip___init__ : Value} {kV_cm_Chip___init__ : Value} {dc_cm_Chip___init__ : Value} {pm_cm_Chip___init__ : Value} {cd_cm_Chip___init__ : Value} {ct_cm_Chip___init__ : Value} {od_cm_Chip___init__ : Option Addr} {an_cm_Chip___init__ : Option Addr} {sl_cm_Chip___init__ : Array (Option Value)}
    {f_by_figures : Addr} {oc_by_figures : Value} {kV_by_figures : Value} {dc_by_figures : Value} {pm_by_figures : Value} {cd_by_figures : Value} {ct_by_figures : Value} {od_by_figures : Option Addr} {an_by_figures : Option Addr} {sl_by_figures : Array (Option Value)}
    {f_two_figures : Addr} {oc_two_figures : Value} {kV_two_figures : Value} {dc_two_figures : Value} {pm_two_figures : Value} {cd_two_figures : Value} {ct_two_figures : Value} {od_two_figures : Option Addr} {an_two_figures : Option Addr} {sl_two_figures : Array (Option Value)}
    {C_Store : Addr}
    {f_m_Store___len__ : Addr} {oc_m_Store___len__ : Value} {kV_m_Store___len__ : Value} {dc_m_Store___len__ : Value} {pm_m_Store___len__ : Value} {cd_m_Store___len__ : Value} {ct_m_Store___len__ : Value} {od_m_Store___len__ : Option Addr} {an_m_Store___len__ : Option Addr} {sl_m_Store___len__ : Array (Option Value)}
    {f_m_Store_check_cell : Addr} {oc_m_Store_check_cell : Value} {kV_m_Store_check_cell : Value} {dc_m_Store_check_cell : Value} {pm_m_Store_check_cell : Value} {cd_m_Store_check_cell : Value} {ct_m_Store_check_cell : Value} {od_m_Store_check_cell : Option Addr} {an_m_Store_check_cell : Option Addr} {sl_m_Store_check_cell : Array (Option Value)}
    {f_m_Store_check_write : Addr} {oc_m_Store_check_write : Value} {kV_m_Store_check_write : Value} {dc_m_Store_check_write : Value} {pm_m_Store_check_write : Value} {cd_m_Store_check_write : Value} {ct_m_Store_check_write : Value} {od_m_Store_check_write : Option Addr} {an_m_Store_check_write : Option Addr} {sl_m_Store_check_write : Array (Option Value)}
    {f_m_Store_look : Addr} {oc_m_Store_look : Value} {kV_m_Store_look : Value} {dc_m_Store_look : Value} {pm_m_Store_look : Value} {cd_m_Store_look : Value} {ct_m_Store_look : Value} {od_m_Store_look : Option Addr} {an_m_Store_look : Option Addr} {sl_m_Store_look : Array (Option Value)}
    {f_m_Store_state : Addr} {oc_m_Store_state : Value} {kV_m_Store_state : Value} {dc_m_Store_state : Value} {pm_m_Store_state : Value} {cd_m_Store_state : Value} {ct_m_Store_state : Value} {od_m_Store_state : Option Addr} {an_m_Store_state : Option Addr} {sl_m_Store_state : Array (Option Value)}
    {f_m_Store_read : Addr} {oc_m_Store_read : Value} {kV_m_Store_read : Value} {dc_m_Store_read : Value} {pm_m_Store_read : Value} {cd_m_Store_read : Value} {ct_m_Store_read : Value} {od_m_Store_read : Option Addr} {an_m_Store_read : Option Addr} {sl_m_Store_read : Array (Option Value)}
    {f_m_Store_write : Addr} {oc_m_Store_write : Value} {kV_m_Store_write : Value} {dc_m_Store_write : Value} {pm_m_Store_write : Value} {cd_m_Store_write : Value} {ct_m_Store_write : Value} {od_m_Store_write : Option Addr} {an_m_Store_write : Option Addr} {sl_m_Store_write : Array (Option Value)}
    {f_m_Store___str__ : Addr} {oc_m_Store___str__ : Value} {kV_m_Store___str__ : Value} {dc_m_Store___str__ : Value} {pm_m_Store___str__ : Value} {cd_m_Store___str__ : Value} {ct_m_Store___str__ : Value} {od_m_Store___str__ : Option Addr} {an_m_Store___str__ : Option Addr} {sl_m_Store___str__ : Array (Option Value)}
    {C_Fixed : Addr}
    {f_m_Fixed___len__ : Addr} {oc_m_Fixed___len__ : Value} {kV_m_Fixed___len__ : Value} {dc_m_Fixed___len__ : Value} {pm_m_Fixed___len__ : Value} {cd_m_Fixed___len__ : Value} {ct_m_Fixed___len__ : Value} {od_m_Fixed___len__ : Option Addr} {an_m_Fixed___len__ : Option Addr} {sl_m_Fixed___len__ : Array (Option Value)}
    {f_m_Fixed_check_cell : Addr} {oc_m_Fixed_check_cell : Value} {kV_m_Fixed_check_cell : Value} {dc_m_Fixed_check_cell : Value} {pm_m_Fixed_check_cell : Value} {cd_m_Fixed_check_cell : Value} {ct_m_Fixed_check_cell : Value} {od_m_Fixed_check_cell : Option Addr} {an_m_Fixed_check_cell : Option Addr} {sl_m_Fixed_check_cell : Array (Option Value)}
    {f_m_Fixed_check_write : Addr} {oc_m_Fixed_check_write : Value} {kV_m_Fixed_check_write : Value} {dc_m_Fixed_check_write : Value} {pm_m_Fixed_check_write : Value} {cd_m_Fixed_check_write : Value} {ct_m_Fixed_check_write : Value} {od_m_Fixed_check_write : Option Addr} {an_m_Fixed_check_write : Option Addr} {sl_m_Fixed_check_write : Array (Option Value)}
    {f_m_Fixed_look : Addr} {oc_m_Fixed_look : Value} {kV_m_Fixed_look : Value} {dc_m_Fixed_look : Value} {pm_m_Fixed_look : Value} {cd_m_Fixed_look : Value} {ct_m_Fixed_look : Value} {od_m_Fixed_look : Option Addr} {an_m_Fixed_look : Option Addr} {sl_m_Fixed_look : Array (Option Value)}
    {f_m_Fixed_state : Addr} {oc_m_Fixed_state : Value} {kV_m_Fixed_state : Value} {dc_m_Fixed_state : Value} {pm_m_Fixed_state : Value} {cd_m_Fixed_state : Value} {ct_m_Fixed_state : Value} {od_m_Fixed_state : Option Addr} {an_m_Fixed_state : Option Addr} {sl_m_Fixed_state : Array (Option Value)}
    {f_m_Fixed_read : Addr} {oc_m_Fixed_read : Value} {kV_m_Fixed_read : Value} {dc_m_Fixed_read : Value} {pm_m_Fixed_read : Value} {cd_m_Fixed_read : Value} {ct_m_Fixed_read : Value} {od_m_Fixed_read : Option Addr} {an_m_Fixed_read : Option Addr} {sl_m_Fixed_read : Array (Option Value)}
    {f_m_Fixed_write : Addr} {oc_m_Fixed_write : Value} {kV_m_Fixed_write : Value} {dc_m_Fixed_write : Value} {pm_m_Fixed_write : Value} {cd_m_Fixed_write : Value} {ct_m_Fixed_write : Value} {od_m_Fixed_write : Option Addr} {an_m_Fixed_write : Option Addr} {sl_m_Fixed_write : Array (Option Value)}
    {f_m_Fixed___str__ : Addr} {oc_m_Fixed___str__ : Value} {kV_m_Fixed___str__ : Value} {dc_m_Fixed___str__ : Value} {pm_m_Fixed___str__ : Value} {cd_m_Fixed___str__ : Value} {ct_m_Fixed___str__ : Value} {od_m_Fixed___str__ : Option Addr} {an_m_Fixed___str__ : Option Addr} {sl_m_Fixed___str__ : Array (Option Value)}
    {C_Latch : Addr}
    {f_m_Latch___len__ : Addr} {oc_m_Latch___len__ : Value} {kV_m_Latch___len__ : Value} {dc_m_Latch___len__ : Value} {pm_m_Latch___len__ : Value} {cd_m_Latch___len__ : Value} {ct_m_Latch___len__ : Value} {od_m_Latch___len__ : Option Addr} {an_m_Latch___len__ : Option Addr} {sl_m_Latch___len__ : Array (Option Value)}
    {f_m_Latch_check_cell : Addr} {oc_m_Latch_check_cell : Value} {kV_m_Latch_check_cell : Value} {dc_m_Latch_check_cell : Value} {pm_m_Latch_check_cell : Value} {cd_m_Latch_check_cell : Value} {ct_m_Latch_check_cell : Value} {od_m_Latch_check_cell : Option Addr} {an_m_Latch_check_cell : Option Addr} {sl_m_Latch_check_cell : Array (Option Value)}
    {f_m_Latch_check_write : Addr} {oc_m_Latch_check_write : Value} {kV_m_Latch_check_write : Value} {dc_m_Latch_check_write : Value} {pm_m_Latch_check_write : Value} {cd_m_Latch_check_write : Value} {ct_m_Latch_check_write : Value} {od_m_Latch_check_write : Option Addr} {an_m_Latch_check_write : Option Addr} {sl_m_Latch_check_write : Array (Option Value)}
    {f_m_Latch_look : Addr} {oc_m_Latch_look : Value} {kV_m_Latch_look : Value} {dc_m_Latch_look : Value} {pm_m_Latch_look : Value} {cd_m_Latch_look : Value} {ct_m_Latch_look : Value} {od_m_Latch_look : Option Addr} {an_m_Latch_look : Option Addr} {sl_m_Latch_look : Array (Option Value)}
    {f_m_Latch_state : Addr} {oc_m_Latch_state : Value} {kV_m_Latch_state : Value} {dc_m_Latch_state : Value} {pm_m_Latch_state : Value} {cd_m_Latch_state : Value} {ct_m_Latch_state : Value} {od_m_Latch_state : Option Addr} {an_m_Latch_state : Option Addr} {sl_m_Latch_state : Array (Option Value)}
    {f_m_Latch_read : Addr} {oc_m_Latch_read : Value} {kV_m_Latch_read : Value} {dc_m_Latch_read : Value} {pm_m_Latch_read : Value} {cd_m_Latch_read : Value} {ct_m_Latch_read : Value} {od_m_Latch_read : Option Addr} {an_m_Latch_read : Option Addr} {sl_m_Latch_read : Array (Option Value)}
    {f_m_Latch_write : Addr} {oc_m_Latch_write : Value} {kV_m_Latch_write : Value} {dc_m_Latch_write : Value} {pm_m_Latch_write : Value} {cd_m_Latch_write : Value} {ct_m_Latch_write : Value} {od_m_Latch_write : Option Addr} {an_m_Latch_write : Option Addr} {sl_m_Latch_write : Array (Option Value)}
    {f_m_Latch___str__ : Addr} {oc_m_Latch___str__ : Value} {kV_m_Latch___str__ : Value} {dc_m_Latch___str__ : Value} {pm_m_Latch___str__ : Value} {cd_m_Latch___str__ : Value} {ct_m_Latch___str__ : Value} {od_m_Latch___str__ : Option Addr} {an_m_Latch___str__ : Option Addr} {sl_m_Latch___str__ : Array (Option Value)}
    {C_Meter : Addr}
    {f_m_Meter___len__ : Addr} {oc_m_Meter___len__ : Value} {kV_m_Meter___len__ : Value} {dc_m_Meter___len__ : Value} {pm_m_Meter___len__ : Value} {cd_m_Meter___len__ : Value} {ct_m_Meter___len__ : Value} {od_m_Meter___len__ : Option Addr} {an_m_Meter___len__ : Option Addr} {sl_m_Meter___len__ : Array (Option Value)}
    {f_m_Meter_check_cell : Addr} {oc_m_Meter_check_cell : Value} {kV_m_Meter_check_cell : Value} {dc_m_Meter_check_cell : Value} {pm_m_Meter_check_cell : Value} {cd_m_Meter_check_cell : Value} {ct_m_Meter_check_cell : Value} {od_m_Meter_check_cell : Option Addr} {an_m_Meter_check_cell : Option Addr} {sl_m_Meter_check_cell : Array (Option Value)}
    {f_m_Meter_check_write : Addr} {oc_m_Meter_check_write : Value} {kV_m_Meter_check_write : Value} {dc_m_Meter_check_write : Value} {pm_m_Meter_check_write : Value} {cd_m_Meter_check_write : Value} {ct_m_Meter_check_write : Value} {od_m_Meter_check_write : Option Addr} {an_m_Meter_check_write : Option Addr} {sl_m_Meter_check_write : Array (Option Value)}
    {f_m_Meter_look : Addr} {oc_m_Meter_look : Value} {kV_m_Meter_look : Value} {dc_m_Meter_look : Value} {pm_m_Meter_look : Value} {cd_m_Meter_look : Value} {ct_m_Meter_look : Value} {od_m_Meter_look : Option Addr} {an_m_Meter_look : Option Addr} {sl_m_Meter_look : Array (Option Value)}
    {f_m_Meter_state : Addr} {oc_m_Meter_state : Value} {kV_m_Meter_state : Value} {dc_m_Meter_state : Value} {pm_m_Meter_state : Value} {cd_m_Meter_state : Value} {ct_m_Meter_state : Value} {od_m_Meter_state : Option Addr} {an_m_Meter_state : Option Addr} {sl_m_Meter_state : Array (Option Value)}
    {f_m_Meter_read : Addr} {oc_m_Meter_read : Value} {kV_m_Meter_read : Value} {dc_m_Meter_read : Value} {pm_m_Meter_read : Value} {cd_m_Meter_read : Value} {ct_m_Meter_read : Value} {od_m_Meter_read : Option Addr} {an_m_Meter_read : Option Addr} {sl_m_Meter_read : Array (Option Value)}
    {f_m_Meter_write : Addr} {oc_m_Meter_write : Value} {kV_m_Meter_write : Value} {dc_m_Meter_write : Value} {pm_m_Meter_write : Value} {cd_m_Meter_write : Value} {ct_m_Meter_write : Value} {od_m_Meter_write : Option Addr} {an_m_Meter_write : Option Addr} {sl_m_Meter_write : Array (Option Value)}
    {f_m_Meter___str__ : Addr} {oc_m_Meter___str__ : Value} {kV_m_Meter___str__ : Value} {dc_m_Meter___str__ : Value} {pm_m_Meter___str__ : Value} {cd_m_Meter___str__ : Value} {ct_m_Meter___str__ : Value} {od_m_Meter___str__ : Option Addr} {an_m_Meter___str__ : Option Addr} {sl_m_Meter___str__ : Array (Option Value)}
    {C_Pipe : Addr}
    {f_m_Pipe___len__ : Addr} {oc_m_Pipe___len__ : Value} {kV_m_Pipe___len__ : Value} {dc_m_Pipe___len__ : Value} {pm_m_Pipe___len__ : Value} {cd_m_Pipe___len__ : Value} {ct_m_Pipe___len__ : Value} {od_m_Pipe___len__ : Option Addr} {an_m_Pipe___len__ : Option Addr} {sl_m_Pipe___len__ : Array (Option Value)}
    {f_m_Pipe_check_cell : Addr} {oc_m_Pipe_check_cell : Value} {kV_m_Pipe_check_cell : Value} {dc_m_Pipe_check_cell : Value} {pm_m_Pipe_check_cell : Value} {cd_m_Pipe_check_cell : Value} {ct_m_Pipe_check_cell : Value} {od_m_Pipe_check_cell : Option Addr} {an_m_Pipe_check_cell : Option Addr} {sl_m_Pipe_check_cell : Array (Option Value)}
    {f_m_Pipe_check_write : Addr} {oc_m_Pipe_check_write : Value} {kV_m_Pipe_check_write : Value} {dc_m_Pipe_check_write : Value} {pm_m_Pipe_check_write : Value} {cd_m_Pipe_check_write : Value} {ct_m_Pipe_check_write : Value} {od_m_Pipe_check_write : Option Addr} {an_m_Pipe_check_write : Option Addr} {sl_m_Pipe_check_write : Array (Option Value)}
    {f_m_Pipe_look : Addr} {oc_m_Pipe_look : Value} {kV_m_Pipe_look : Value} {dc_m_Pipe_look : Value} {pm_m_Pipe_look : Value} {cd_m_Pipe_look : Value} {ct_m_Pipe_look : Value} {od_m_Pipe_look : Option Addr} {an_m_Pipe_look : Option Addr} {sl_m_Pipe_look : Array (Option Value)}
    {f_m_Pipe_state : Addr} {oc_m_Pipe_state : Value} {kV_m_Pipe_state : Value} {dc_m_Pipe_state : Value} {pm_m_Pipe_state : Value} {cd_m_Pipe_state : Value} {ct_m_Pipe_state : Value} {od_m_Pipe_state : Option Addr} {an_m_Pipe_state : Option Addr} {sl_m_Pipe_state : Array (Option Value)}
    {f_m_Pipe_read : Addr} {oc_m_Pipe_read : Value} {kV_m_Pipe_read : Value} {dc_m_Pipe_read : Value} {pm_m_Pipe_read : Value} {cd_m_Pipe_read : Value} {ct_m_Pipe_read : Value} {od_m_Pipe_read : Option Addr} {an_m_Pipe_read : Option Addr} {sl_m_Pipe_read : Array (Option Value)}
    {f_m_Pipe_write : Addr} {oc_m_Pipe_write : Value} {kV_m_Pipe_write : Value} {dc_m_Pipe_write : Value} {pm_m_Pipe_write : Value} {cd_m_Pipe_write : Value} {ct_m_Pipe_write : Value} {od_m_Pipe_write : Option Addr} {an_m_Pipe_write : Option Addr} {sl_m_Pipe_write : Array (Option Value)}
    {f_m_Pipe___str__ : Addr} {oc_m_Pipe___str__ : Value} {kV_m_Pipe___str__ : Value} {dc_m_Pipe___str__ : Value} {pm_m_Pipe___str__ : Value} {cd_m_Pipe___str__ : Value} {ct_m_Pipe___str__ : Value} {od_m_Pipe___str__ : Option Addr} {an_m_Pipe___str__ : Option Addr} {sl_m_Pipe___str__ : Array (Option Value)}
    {f_m_Store___eq__ : Addr} {oc_m_Store___eq__ : Value} {kV_m_Store___eq__ : Value} {dc_m_Store___eq__ : Value} {pm_m_Store___eq__ : Value} {cd_m_Store___eq__ : Value} {ct_m_Store___eq__ : Value} {od_m_Store___eq__ : Option Addr} {an_m_Store___eq__ : Option Addr} {sl_m_Store___eq__ : Array (Option Value)}
    {f_m_Fixed___eq__ : Addr} {oc_m_Fixed___eq__ : Value} {kV_m_Fixed___eq__ : Value} {dc_m_Fixed___eq__ : Value} {pm_m_Fixed___eq__ : Value} {cd_m_Fixed___eq__ : Value} {ct_m_Fixed___eq__ : Value} {od_m_Fixed___eq__ : Option Addr} {an_m_Fixed___eq__ : Option Addr} {sl_m_Fixed___eq__ : Array (Option Value)}
    {f_m_Latch___eq__ : Addr} {oc_m_Latch___eq__ : Value} {kV_m_Latch___eq__ : Value} {dc_m_Latch___eq__ : Value} {pm_m_Latch___eq__ : Value} {cd_m_Latch___eq__ : Value} {ct_m_Latch___eq__ : Value} {od_m_Latch___eq__ : Option Addr} {an_m_Latch___eq__ : Option Addr} {sl_m_Latch___eq__ : Array (Option Value)}
    {f_m_Meter___eq__ : Addr} {oc_m_Meter___eq__ : Value} {kV_m_Meter___eq__ : Value} {dc_m_Meter___eq__ : Value} {pm_m_Meter___eq__ : Value} {cd_m_Meter___eq__ : Value} {ct_m_Meter___eq__ : Value} {od_m_Meter___eq__ : Option Addr} {an_m_Meter___eq__ : Option Addr} {sl_m_Meter___eq__ : Array (Option Value)}
    {f_m_Pipe___eq__ : Addr} {oc_m_Pipe___eq__ : Value} {kV_m_Pipe___eq__ : Value} {dc_m_Pipe___eq__ : Value} {pm_m_Pipe___eq__ : Value} {cd_m_Pipe___eq__ : Value} {ct_m_Pipe___eq__ : Value} {od_m_Pipe___eq__ : Option Addr} {an_m_Pipe___eq__ : Option Addr} {sl_m_Pipe___eq__ : Array (Option Value)}
    {f_i_Store : Addr} {oc_i_Store : Value} {kV_i_Store : Value} {dc_i_Store : Value} {pm_i_Store : Value} {cd_i_Store : Value} {ct_i_Store : Value} {od_i_Store : Option Addr} {an_i_Store : Option Addr} {sl_i_Store : Array (Option Value)}
    {T_i_Store : Addr} {tc_i_Store : Value} {td_i_Store : Option Addr} {tn_i_Store : Nat} {ts_i_Store : Array (Option Value)} {tt_i_Store : Tok}
    {f_i_Fixed : Addr} {oc_i_Fixed : Value} {kV_i_Fixed : Value} {dc_i_Fixed : Value} {pm_i_Fixed : Value} {cd_i_Fixed : Value} {ct_i_Fixed : Value} {od_i_Fixed : Option Addr} {an_i_Fixed : Option Addr} {sl_i_Fixed : Array (Option Value)}
    {f_i_Latch : Addr} {oc_i_Latch : Value} {kV_i_Latch : Value} {dc_i_Latch : Value} {pm_i_Latch : Value} {cd_i_Latch : Value} {ct_i_Latch : Value} {od_i_Latch : Option Addr} {an_i_Latch : Option Addr} {sl_i_Latch : Array (Option Value)}
    {T_i_Latch : Addr} {tc_i_Latch : Value} {td_i_Latch : Option Addr} {tn_i_Latch : Nat} {ts_i_Latch : Array (Option Value)} {tt_i_Latch : Tok}
    {f_i_Meter : Addr} {oc_i_Meter : Value} {kV_i_Meter : Value} {dc_i_Meter : Value} {pm_i_Meter : Value} {cd_i_Meter : Value} {ct_i_Meter : Value} {od_i_Meter : Option Addr} {an_i_Meter : Option Addr} {sl_i_Meter : Array (Option Value)}
    {T_i_Meter : Addr} {tc_i_Meter : Value} {td_i_Meter : Option Addr} {tn_i_Meter : Nat} {ts_i_Meter : Array (Option Value)} {tt_i_Meter : Tok}
    {f_i_Pipe : Addr} {oc_i_Pipe : Value} {kV_i_Pipe : Value} {dc_i_Pipe : Value} {pm_i_Pipe : Value} {cd_i_Pipe : Value} {ct_i_Pipe : Value} {od_i_Pipe : Option Addr} {an_i_Pipe : Option Addr} {sl_i_Pipe : Array (Option Value)}
    {T_i_Pipe : Addr} {tc_i_Pipe : Value} {td_i_Pipe : Option Addr} {tn_i_Pipe : Nat} {ts_i_Pipe : Array (Option Value)} {tt_i_Pipe : Tok}
    {f__law_cell_at : Addr} {oc__law_cell_at : Value} {kV__law_cell_at : Value} {dc__law_cell_at : Value} {pm__law_cell_at : Value} {cd__law_cell_at : Value} {ct__law_cell_at : Value} {od__law_cell_at : Option Addr} {an__law_cell_at : Option Addr} {sl__law_cell_at : Array (Option Value)}
    {f__law_bag : Addr} {oc__law_bag : Value} {kV__law_bag : Value} {dc__law_bag : Value} {pm__law_bag : Value} {cd__law_bag : Value} {ct__law_bag : Value} {od__law_bag : Option Addr} {an__law_bag : Option Addr} {sl__law_bag : Array (Option Value)}
    {f__law_draw : Addr} {oc__law_draw : Value} {kV__law_draw : Value} {dc__law_draw : Value} {pm__law_draw : Value} {cd__law_draw : Value} {ct__law_draw : Value} {od__law_draw : Option Addr} {an__law_draw : Option Addr} {sl__law_draw : Array (Option Value)}
    {f__law_alike : Addr} {oc__law_alike : Value} {kV__law_alike : Value} {dc__law_alike : Value} {pm__law_alike : Value} {cd__law_alike : Value} {ct__law_alike : Value} {od__law_alike : Option Addr} {an__law_alike : Option Addr} {sl__law_alike : Array (Option Value)}
    {f__law_word : Addr} {oc__law_word : Value} {kV__law_word : Value} {dc__law_word : Value} {pm__law_word : Value} {cd__law_word : Value} {ct__law_word : Value} {od__law_word : Option Addr} {an__law_word : Option Addr} {sl__law_word : Array (Option Value)}
    {f_only_word : Addr} {oc_only_word : Value} {kV_only_word : Value} {dc_only_word : Value} {pm_only_word : Value} {cd_only_word : Value} {ct_only_word : Value} {od_only_word : Option Addr} {an_only_word : Option Addr} {sl_only_word : Array (Option Value)}
    {f_are_figures : Addr} {oc_are_figures : Value} {kV_are_figures : Value} {dc_are_figures : Value} {pm_are_figures : Value} {cd_are_figures : Value} {ct_are_figures : Value} {od_are_figures : Option Addr} {an_are_figures : Option Addr} {sl_are_figures : Array (Option Value)}
    {f_sixteen_of : Addr} {oc_sixteen_of : Value} {kV_sixteen_of : Value} {dc_sixteen_of : Value} {pm_sixteen_of : Value} {cd_sixteen_of : Value} {ct_sixteen_of : Value} {od_sixteen_of : Option Addr} {an_sixteen_of : Option Addr} {sl_sixteen_of : Array (Option Value)}
    {f_read_sixteen : Addr} {oc_read_sixteen : Value} {kV_read_sixteen : Value} {dc_read_sixteen : Value} {pm_read_sixteen : Value} {cd_read_sixteen : Value} {ct_read_sixteen : Value} {od_read_sixteen : Option Addr} {an_read_sixteen : Option Addr} {sl_read_sixteen : Array (Option Value)}
    {f_read_word : Addr} {oc_read_word : Value} {kV_read_word : Value} {dc_read_word : Value} {pm_read_word : Value} {cd_read_word : Value} {ct_read_word : Value} {od_read_word : Option Addr} {an_read_word : Option Addr} {sl_read_word : Array (Option Value)}
    {f_fixed_of : Addr} {oc_fixed_of : Value} {kV_fixed_of : Value} {dc_fixed_of : Value} {pm_fixed_of : Value} {cd_fixed_of : Value} {ct_fixed_of : Value} {od_fixed_of : Option Addr} {an_fixed_of : Option Addr} {sl_fixed_of : Array (Option Value)}
    {f_latch_of : Addr} {oc_latch_of : Value} {kV_latch_of : Value} {dc_latch_of : Value} {pm_latch_of : Value} {cd_latch_of : Value} {ct_latch_of : Value} {od_latch_of : Option Addr} {an_latch_of : Option Addr} {sl_latch_of : Array (Option Value)}
    {f_meter_of : Addr} {oc_meter_of : Value} {kV_meter_of : Value} {dc_meter_of : Value} {pm_meter_of : Value} {cd_meter_of : Value} {ct_meter_of : Value} {od_meter_of : Option Addr} {an_meter_of : Option Addr} {sl_meter_of : Array (Option Value)}
    {f_filled_store : Addr} {oc_filled_store : Value} {kV_filled_store : Value} {dc_filled_store : Value} {pm_filled_store : Value} {cd_filled_store : Value} {ct_filled_store : Value} {od_filled_store : Option Addr} {an_filled_store : Option Addr} {sl_filled_store : Array (Option Value)}
    {f_filled_pipe : Addr} {oc_filled_pipe : Value} {kV_filled_pipe : Value} {dc_filled_pipe : Value} {pm_filled_pipe : Value} {cd_filled_pipe : Value} {ct_filled_pipe : Value} {od_filled_pipe : Option Addr} {an_filled_pipe : Option Addr} {sl_filled_pipe : Array (Option Value)}
    {a_K : Addr} {ep_K : Nat} {h0_K h1_K h2_K h3_K h4_K : Int} {t0_K t1_K t2_K t3_K t4_K : Tok}
    {f_read_chip : Addr} {oc_read_chip : Value} {kV_read_chip : Value} {dc_read_chip : Value} {pm_read_chip : Value} {cd_read_chip : Value} {ct_read_chip : Value} {od_read_chip : Option Addr} {an_read_chip : Option Addr} {sl_read_chip : Array (Option Value)}
    {f__law_size : Addr} {oc__law_size : Value} {kV__law_size : Value} {dc__law_size : Value} {pm__law_size : Value} {cd__law_size : Value} {ct__law_size : Value} {od__law_size : Option Addr} {an__law_size : Option Addr} {sl__law_size : Array (Option Value)}
    {f__law_agree : Addr} {oc__law_agree : Value} {kV__law_agree : Value} {dc__law_agree : Value} {pm__law_agree : Value} {cd__law_agree : Value} {ct__law_agree : Value} {od__law_agree : Option Addr} {an__law_agree : Option Addr} {sl__law_agree : Array (Option Value)}
    {f__law_pair : Addr} {oc__law_pair : Value} {kV__law_pair : Value} {dc__law_pair : Value} {pm__law_pair : Value} {cd__law_pair : Value} {ct__law_pair : Value} {od__law_pair : Option Addr} {an__law_pair : Option Addr} {sl__law_pair : Array (Option Value)}
    {f__law_done : Addr} {oc__law_done : Value} {kV__law_done : Value} {dc__law_done : Value} {pm__law_done : Value} {cd__law_done : Value} {ct__law_done : Value} {od__law_done : Option Addr} {an__law_done : Option Addr} {sl__law_done : Array (Option Value)}
    {f_law : Addr} {oc_law : Value} {kV_law : Value} {dc_law : Value} {pm_law : Value} {cd_law : Value} {ct_law : Value} {od_law : Option Addr} {an_law : Option Addr} {sl_law : Array (Option Value)}
    {tk_LAST_WORD : Tok}
    {tk_MOST_CELLS : Tok}
    {tk_MOST_ROOM : Tok}
    {tk_SIXTEEN : Tok}
    (a0_is_number : PySem.W.nsIn K mainGlobals "is_number" = some (some (.ref f_is_number)))
    (l_is_number : K.lookup f_is_number = some ⟨oc_is_number, od_is_number, .func (PySem.W.fnOf "is_number" "is_number" (defArgs sis_number) (defBody sis_number) (defScope sis_number) .none kV_is_number dc_is_number pm_is_number an_is_number cd_is_number ct_is_number), sl_is_number⟩)
    (c_is_number : PySem.W.codeIn K cd_is_number "is_number" = true)
    (k_is_number : PySem.W.keepIn K (.ref f_is_number) = true)
    (a0_is_word : PySem.W.nsIn K mainGlobals "is_word" = some (some (.ref f_is_word)))
    (l_is_word : K.lookup f_is_word = some ⟨oc_is_word, od_is_word, .func (PySem.W.fnOf "is_word" "is_word" (defArgs sis_word) (defBody sis_word) (defScope sis_word) .none kV_is_word dc_is_word pm_is_word an_is_word cd_is_word ct_is_word), sl_is_word⟩)
    (c_is_word : PySem.W.codeIn K cd_is_word "is_word" = true)
    (k_is_word : PySem.W.keepIn K (.ref f_is_word) = true)
    (a0_check_word : PySem.W.nsIn K mainGlobals "check_word" = some (some (.ref f_check_word)))
    (l_check_word : K.lookup f_check_word = some ⟨oc_check_word, od_check_word, .func (PySem.W.fnOf "check_word" "check_word" (defArgs scheck_word) (defBody scheck_word) (defScope scheck_word) .none kV_check_word dc_check_word pm_check_word an_check_word cd_check_word ct_check_word), sl_check_word⟩)
    (c_check_word : PySem.W.codeIn K cd_check_word "check_word" = true)
    (k_check_word : PySem.W.keepIn K (.ref f_check_word) = true)
    (a_Chip : PySem.W.nsIn K mainGlobals "Chip" = some (some (.ref C_Chip)))
    (sg_cm_Chip___init__ : PySem.W.specialIn K (.ref C_Chip) "__getattribute__" = some (some (.builtin "type.__getattribute__")))
    (rd_cm_Chip___init__ : PySem.W.readsIn K C_Chip (.type "type") = true)
    (fc_cm_Chip___init__ : PySem.W.findCls K (.ref C_Chip) (.type "type") "__init__" = some (.val (.ref f_cm_Chip___init__)))
    (l_cm_Chip___init__ : K.lookup f_cm_Chip___init__ = some ⟨oc_cm_Chip___init__, od_cm_Chip___init__, .func (PySem.W.fnOf "__init__" "Chip.__init__" (defArgs sChip___init__) (defBody sChip___init__) (defScope sChip___init__) .none kV_cm_Chip___init__ dc_cm_Chip___init__ pm_cm_Chip___init__ an_cm_Chip___init__ cd_cm_Chip___init__ ct_cm_Chip___init__), sl_cm_Chip___init__⟩)
    (c_cm_Chip___init__ : PySem.W.codeIn K cd_cm_Chip___init__ "Chip.__init__" = true)
    (k_cm_Chip___init__ : PySem.W.keepIn K (.ref f_cm_Chip___init__) = true)
    (a0_by_figures : PySem.W.nsIn K mainGlobals "by_figures" = some (some (.ref f_by_figures)))
    (l_by_figures : K.lookup f_by_figures = some ⟨oc_by_figures, od_by_figures, .func (PySem.W.fnOf "by_figures" "by_figures" (defArgs sby_figures) (defBody sby_figures) (defScope sby_figures) .none kV_by_figures dc_by_figures pm_by_figures an_by_figures cd_by_figures ct_by_figures), sl_by_figures⟩)
    (c_by_figures : PySem.W.codeIn K cd_by_figures "by_figures" = true)
    (k_by_figures : PySem.W.keepIn K (.ref f_by_figures) = true)
    (a0_two_figures : PySem.W.nsIn K mainGlobals "two_figures" = some (some (.ref f_two_figures)))
    (l_two_figures : K.lookup f_two_figures = some ⟨oc_two_figures, od_two_figures, .func (PySem.W.fnOf "two_figures" "two_figures" (defArgs stwo_figures) (defBody stwo_figures) (defScope stwo_figures) .none kV_two_figures dc_two_figures pm_two_figures an_two_figures cd_two_figures ct_two_figures), sl_two_figures⟩)
    (c_two_figures : PySem.W.codeIn K cd_two_figures "two_figures" = true)
    (k_two_figures : PySem.W.keepIn K (.ref f_two_figures) = true)
    (a_Store : PySem.W.nsIn K mainGlobals "Store" = some (some (.ref C_Store)))
    (pg_Store : PySem.W.plainGet K C_Store Str.empty = true)
    (hd_Store : PySem.W.hasDictIn K C_Store = true)
    (po_Store : PySem.W.plainOver K C_Store = true)
    (sa_Store : PySem.W.findIn K (.ref C_Store) "__setattr__" = some (some (.builtin "object.__setattr__")))
    (nhead_Store : PySem.W.findIn K (.ref C_Store) "head" = some none)
    (nheld_Store : PySem.W.findIn K (.ref C_Store) "held" = some none)
    (nroom_Store : PySem.W.findIn K (.ref C_Store) "room" = some none)
    (at_m_Store___len__ : PySem.W.findIn K (.ref C_Store) "__len__" = some (some (.ref f_m_Store___len__)))
    (fn_m_Store___len__ : PySem.W.isFn K (.ref f_m_Store___len__) = true)
    (l_m_Store___len__ : K.lookup f_m_Store___len__ = some ⟨oc_m_Store___len__, od_m_Store___len__, .func (PySem.W.fnOf "__len__" "Chip.__len__" (defArgs sChip___len__) (defBody sChip___len__) (defScope sChip___len__) .none kV_m_Store___len__ dc_m_Store___len__ pm_m_Store___len__ an_m_Store___len__ cd_m_Store___len__ ct_m_Store___len__), sl_m_Store___len__⟩)
    (c_m_Store___len__ : PySem.W.codeIn K cd_m_Store___len__ "Chip.__len__" = true)
    (k_m_Store___len__ : PySem.W.keepIn K (.ref f_m_Store___len__) = true)
    (at_m_Store_check_cell : PySem.W.findIn K (.ref C_Store) "check_cell" = some (some (.ref f_m_Store_check_cell)))
    (fn_m_Store_check_cell : PySem.W.isFn K (.ref f_m_Store_check_cell) = true)
    (l_m_Store_check_cell : K.lookup f_m_Store_check_cell = some ⟨oc_m_Store_check_cell, od_m_Store_check_cell, .func (PySem.W.fnOf "check_cell" "Chip.check_cell" (defArgs sChip_check_cell) (defBody sChip_check_cell) (defScope sChip_check_cell) .none kV_m_Store_check_cell dc_m_Store_check_cell pm_m_Store_check_cell an_m_Store_check_cell cd_m_Store_check_cell ct_m_Store_check_cell), sl_m_Store_check_cell⟩)
    (c_m_Store_check_cell : PySem.W.codeIn K cd_m_Store_check_cell "Chip.check_cell" = true)
    (k_m_Store_check_cell : PySem.W.keepIn K (.ref f_m_Store_check_cell) = true)
    (at_m_Store_check_write : PySem.W.findIn K (.ref C_Store) "check_write" = some (some (.ref f_m_Store_check_write)))
    (fn_m_Store_check_write : PySem.W.isFn K (.ref f_m_Store_check_write) = true)
    (l_m_Store_check_write : K.lookup f_m_Store_check_write = some ⟨oc_m_Store_check_write, od_m_Store_check_write, .func (PySem.W.fnOf "check_write" "Chip.check_write" (defArgs sChip_check_write) (defBody sChip_check_write) (defScope sChip_check_write) .none kV_m_Store_check_write dc_m_Store_check_write pm_m_Store_check_write an_m_Store_check_write cd_m_Store_check_write ct_m_Store_check_write), sl_m_Store_check_write⟩)
    (c_m_Store_check_write : PySem.W.codeIn K cd_m_Store_check_write "Chip.check_write" = true)
    (k_m_Store_check_write : PySem.W.keepIn K (.ref f_m_Store_check_write) = true)
    (at_m_Store_look : PySem.W.findIn K (.ref C_Store) "look" = some (some (.ref f_m_Store_look)))
    (fn_m_Store_look : PySem.W.isFn K (.ref f_m_Store_look) = true)
    (l_m_Store_look : K.lookup f_m_Store_look = some ⟨oc_m_Store_look, od_m_Store_look, .func (PySem.W.fnOf "look" "Chip.look" (defArgs sChip_look) (defBody sChip_look) (defScope sChip_look) .none kV_m_Store_look dc_m_Store_look pm_m_Store_look an_m_Store_look cd_m_Store_look ct_m_Store_look), sl_m_Store_look⟩)
    (c_m_Store_look : PySem.W.codeIn K cd_m_Store_look "Chip.look" = true)
    (k_m_Store_look : PySem.W.keepIn K (.ref f_m_Store_look) = true)
    (at_m_Store_state : PySem.W.findIn K (.ref C_Store) "state" = some (some (.ref f_m_Store_state)))
    (fn_m_Store_state : PySem.W.isFn K (.ref f_m_Store_state) = true)
    (l_m_Store_state : K.lookup f_m_Store_state = some ⟨oc_m_Store_state, od_m_Store_state, .func (PySem.W.fnOf "state" "Chip.state" (defArgs sChip_state) (defBody sChip_state) (defScope sChip_state) .none kV_m_Store_state dc_m_Store_state pm_m_Store_state an_m_Store_state cd_m_Store_state ct_m_Store_state), sl_m_Store_state⟩)
    (c_m_Store_state : PySem.W.codeIn K cd_m_Store_state "Chip.state" = true)
    (k_m_Store_state : PySem.W.keepIn K (.ref f_m_Store_state) = true)
    (at_m_Store_read : PySem.W.findIn K (.ref C_Store) "read" = some (some (.ref f_m_Store_read)))
    (fn_m_Store_read : PySem.W.isFn K (.ref f_m_Store_read) = true)
    (l_m_Store_read : K.lookup f_m_Store_read = some ⟨oc_m_Store_read, od_m_Store_read, .func (PySem.W.fnOf "read" "Chip.read" (defArgs sChip_read) (defBody sChip_read) (defScope sChip_read) .none kV_m_Store_read dc_m_Store_read pm_m_Store_read an_m_Store_read cd_m_Store_read ct_m_Store_read), sl_m_Store_read⟩)
    (c_m_Store_read : PySem.W.codeIn K cd_m_Store_read "Chip.read" = true)
    (k_m_Store_read : PySem.W.keepIn K (.ref f_m_Store_read) = true)
    (at_m_Store_write : PySem.W.findIn K (.ref C_Store) "write" = some (some (.ref f_m_Store_write)))
    (fn_m_Store_write : PySem.W.isFn K (.ref f_m_Store_write) = true)
    (l_m_Store_write : K.lookup f_m_Store_write = some ⟨oc_m_Store_write, od_m_Store_write, .func (PySem.W.fnOf "write" "Chip.write" (defArgs sChip_write) (defBody sChip_write) (defScope sChip_write) .none kV_m_Store_write dc_m_Store_write pm_m_Store_write an_m_Store_write cd_m_Store_write ct_m_Store_write), sl_m_Store_write⟩)
    (c_m_Store_write : PySem.W.codeIn K cd_m_Store_write "Chip.write" = true)
    (k_m_Store_write : PySem.W.keepIn K (.ref f_m_Store_write) = true)
    (at_m_Store___str__ : PySem.W.findIn K (.ref C_Store) "__str__" = some (some (.ref f_m_Store___str__)))
    (fn_m_Store___str__ : PySem.W.isFn K (.ref f_m_Store___str__) = true)
    (l_m_Store___str__ : K.lookup f_m_Store___str__ = some ⟨oc_m_Store___str__, od_m_Store___str__, .func (PySem.W.fnOf "__str__" "Chip.__str__" (defArgs sChip___str__) (defBody sChip___str__) (defScope sChip___str__) .none kV_m_Store___str__ dc_m_Store___str__ pm_m_Store___str__ an_m_Store___str__ cd_m_Store___str__ ct_m_Store___str__), sl_m_Store___str__⟩)
    (c_m_Store___str__ : PySem.W.codeIn K cd_m_Store___str__ "Chip.__str__" = true)
    (k_m_Store___str__ : PySem.W.keepIn K (.ref f_m_Store___str__) = true)
    (a_Fixed : PySem.W.nsIn K mainGlobals "Fixed" = some (some (.ref C_Fixed)))
    (pg_Fixed : PySem.W.plainGet K C_Fixed Str.empty = true)
    (hd_Fixed : PySem.W.hasDictIn K C_Fixed = true)
    (po_Fixed : PySem.W.plainOver K C_Fixed = true)
    (sa_Fixed : PySem.W.findIn K (.ref C_Fixed) "__setattr__" = some (some (.builtin "object.__setattr__")))
    (nhead_Fixed : PySem.W.findIn K (.ref C_Fixed) "head" = some none)
    (nheld_Fixed : PySem.W.findIn K (.ref C_Fixed) "held" = some none)
    (nroom_Fixed : PySem.W.findIn K (.ref C_Fixed) "room" = some none)
    (at_m_Fixed___len__ : PySem.W.findIn K (.ref C_Fixed) "__len__" = some (some (.ref f_m_Fixed___len__)))
    (fn_m_Fixed___len__ : PySem.W.isFn K (.ref f_m_Fixed___len__) = true)
    (l_m_Fixed___len__ : K.lookup f_m_Fixed___len__ = some ⟨oc_m_Fixed___len__, od_m_Fixed___len__, .func (PySem.W.fnOf "__len__" "Chip.__len__" (defArgs sChip___len__) (defBody sChip___len__) (defScope sChip___len__) .none kV_m_Fixed___len__ dc_m_Fixed___len__ pm_m_Fixed___len__ an_m_Fixed___len__ cd_m_Fixed___len__ ct_m_Fixed___len__), sl_m_Fixed___len__⟩)
    (c_m_Fixed___len__ : PySem.W.codeIn K cd_m_Fixed___len__ "Chip.__len__" = true)
    (k_m_Fixed___len__ : PySem.W.keepIn K (.ref f_m_Fixed___len__) = true)
    (at_m_Fixed_check_cell : PySem.W.findIn K (.ref C_Fixed) "check_cell" = some (some (.ref f_m_Fixed_check_cell)))
    (fn_m_Fixed_check_cell : PySem.W.isFn K (.ref f_m_Fixed_check_cell) = true)
    (l_m_Fixed_check_cell : K.lookup f_m_Fixed_check_cell = some ⟨oc_m_Fixed_check_cell, od_m_Fixed_check_cell, .func (PySem.W.fnOf "check_cell" "Chip.check_cell" (defArgs sChip_check_cell) (defBody sChip_check_cell) (defScope sChip_check_cell) .none kV_m_Fixed_check_cell dc_m_Fixed_check_cell pm_m_Fixed_check_cell an_m_Fixed_check_cell cd_m_Fixed_check_cell ct_m_Fixed_check_cell), sl_m_Fixed_check_cell⟩)
    (c_m_Fixed_check_cell : PySem.W.codeIn K cd_m_Fixed_check_cell "Chip.check_cell" = true)
    (k_m_Fixed_check_cell : PySem.W.keepIn K (.ref f_m_Fixed_check_cell) = true)
    (at_m_Fixed_check_write : PySem.W.findIn K (.ref C_Fixed) "check_write" = some (some (.ref f_m_Fixed_check_write)))
    (fn_m_Fixed_check_write : PySem.W.isFn K (.ref f_m_Fixed_check_write) = true)
    (l_m_Fixed_check_write : K.lookup f_m_Fixed_check_write = some ⟨oc_m_Fixed_check_write, od_m_Fixed_check_write, .func (PySem.W.fnOf "check_write" "Chip.check_write" (defArgs sChip_check_write) (defBody sChip_check_write) (defScope sChip_check_write) .none kV_m_Fixed_check_write dc_m_Fixed_check_write pm_m_Fixed_check_write an_m_Fixed_check_write cd_m_Fixed_check_write ct_m_Fixed_check_write), sl_m_Fixed_check_write⟩)
    (c_m_Fixed_check_write : PySem.W.codeIn K cd_m_Fixed_check_write "Chip.check_write" = true)
    (k_m_Fixed_check_write : PySem.W.keepIn K (.ref f_m_Fixed_check_write) = true)
    (at_m_Fixed_look : PySem.W.findIn K (.ref C_Fixed) "look" = some (some (.ref f_m_Fixed_look)))
    (fn_m_Fixed_look : PySem.W.isFn K (.ref f_m_Fixed_look) = true)
    (l_m_Fixed_look : K.lookup f_m_Fixed_look = some ⟨oc_m_Fixed_look, od_m_Fixed_look, .func (PySem.W.fnOf "look" "Chip.look" (defArgs sChip_look) (defBody sChip_look) (defScope sChip_look) .none kV_m_Fixed_look dc_m_Fixed_look pm_m_Fixed_look an_m_Fixed_look cd_m_Fixed_look ct_m_Fixed_look), sl_m_Fixed_look⟩)
    (c_m_Fixed_look : PySem.W.codeIn K cd_m_Fixed_look "Chip.look" = true)
    (k_m_Fixed_look : PySem.W.keepIn K (.ref f_m_Fixed_look) = true)
    (at_m_Fixed_state : PySem.W.findIn K (.ref C_Fixed) "state" = some (some (.ref f_m_Fixed_state)))
    (fn_m_Fixed_state : PySem.W.isFn K (.ref f_m_Fixed_state) = true)
    (l_m_Fixed_state : K.lookup f_m_Fixed_state = some ⟨oc_m_Fixed_state, od_m_Fixed_state, .func (PySem.W.fnOf "state" "Chip.state" (defArgs sChip_state) (defBody sChip_state) (defScope sChip_state) .none kV_m_Fixed_state dc_m_Fixed_state pm_m_Fixed_state an_m_Fixed_state cd_m_Fixed_state ct_m_Fixed_state), sl_m_Fixed_state⟩)
    (c_m_Fixed_state : PySem.W.codeIn K cd_m_Fixed_state "Chip.state" = true)
    (k_m_Fixed_state : PySem.W.keepIn K (.ref f_m_Fixed_state) = true)
    (at_m_Fixed_read : PySem.W.findIn K (.ref C_Fixed) "read" = some (some (.ref f_m_Fixed_read)))
    (fn_m_Fixed_read : PySem.W.isFn K (.ref f_m_Fixed_read) = true)
    (l_m_Fixed_read : K.lookup f_m_Fixed_read = some ⟨oc_m_Fixed_read, od_m_Fixed_read, .func (PySem.W.fnOf "read" "Chip.read" (defArgs sChip_read) (defBody sChip_read) (defScope sChip_read) .none kV_m_Fixed_read dc_m_Fixed_read pm_m_Fixed_read an_m_Fixed_read cd_m_Fixed_read ct_m_Fixed_read), sl_m_Fixed_read⟩)
    (c_m_Fixed_read : PySem.W.codeIn K cd_m_Fixed_read "Chip.read" = true)
    (k_m_Fixed_read : PySem.W.keepIn K (.ref f_m_Fixed_read) = true)
    (at_m_Fixed_write : PySem.W.findIn K (.ref C_Fixed) "write" = some (some (.ref f_m_Fixed_write)))
    (fn_m_Fixed_write : PySem.W.isFn K (.ref f_m_Fixed_write) = true)
    (l_m_Fixed_write : K.lookup f_m_Fixed_write = some ⟨oc_m_Fixed_write, od_m_Fixed_write, .func (PySem.W.fnOf "write" "Fixed.write" (defArgs sFixed_write) (defBody sFixed_write) (defScope sFixed_write) .none kV_m_Fixed_write dc_m_Fixed_write pm_m_Fixed_write an_m_Fixed_write cd_m_Fixed_write ct_m_Fixed_write), sl_m_Fixed_write⟩)
    (c_m_Fixed_write : PySem.W.codeIn K cd_m_Fixed_write "Fixed.write" = true)
    (k_m_Fixed_write : PySem.W.keepIn K (.ref f_m_Fixed_write) = true)
    (at_m_Fixed___str__ : PySem.W.findIn K (.ref C_Fixed) "__str__" = some (some (.ref f_m_Fixed___str__)))
    (fn_m_Fixed___str__ : PySem.W.isFn K (.ref f_m_Fixed___str__) = true)
    (l_m_Fixed___str__ : K.lookup f_m_Fixed___str__ = some ⟨oc_m_Fixed___str__, od_m_Fixed___str__, .func (PySem.W.fnOf "__str__" "Chip.__str__" (defArgs sChip___str__) (defBody sChip___str__) (defScope sChip___str__) .none kV_m_Fixed___str__ dc_m_Fixed___str__ pm_m_Fixed___str__ an_m_Fixed___str__ cd_m_Fixed___str__ ct_m_Fixed___str__), sl_m_Fixed___str__⟩)
    (c_m_Fixed___str__ : PySem.W.codeIn K cd_m_Fixed___str__ "Chip.__str__" = true)
    (k_m_Fixed___str__ : PySem.W.keepIn K (.ref f_m_Fixed___str__) = true)
    (a_Latch : PySem.W.nsIn K mainGlobals "Latch" = some (some (.ref C_Latch)))
    (pg_Latch : PySem.W.plainGet K C_Latch Str.empty = true)
    (hd_Latch : PySem.W.hasDictIn K C_Latch = true)
    (po_Latch : PySem.W.plainOver K C_Latch = true)
    (sa_Latch : PySem.W.findIn K (.ref C_Latch) "__setattr__" = some (some (.builtin "object.__setattr__")))
    (nhead_Latch : PySem.W.findIn K (.ref C_Latch) "head" = some none)
    (nheld_Latch : PySem.W.findIn K (.ref C_Latch) "held" = some none)
    (nroom_Latch : PySem.W.findIn K (.ref C_Latch) "room" = some none)
    (at_m_Latch___len__ : PySem.W.findIn K (.ref C_Latch) "__len__" = some (some (.ref f_m_Latch___len__)))
    (fn_m_Latch___len__ : PySem.W.isFn K (.ref f_m_Latch___len__) = true)
    (l_m_Latch___len__ : K.lookup f_m_Latch___len__ = some ⟨oc_m_Latch___len__, od_m_Latch___len__, .func (PySem.W.fnOf "__len__" "Chip.__len__" (defArgs sChip___len__) (defBody sChip___len__) (defScope sChip___len__) .none kV_m_Latch___len__ dc_m_Latch___len__ pm_m_Latch___len__ an_m_Latch___len__ cd_m_Latch___len__ ct_m_Latch___len__), sl_m_Latch___len__⟩)
    (c_m_Latch___len__ : PySem.W.codeIn K cd_m_Latch___len__ "Chip.__len__" = true)
    (k_m_Latch___len__ : PySem.W.keepIn K (.ref f_m_Latch___len__) = true)
    (at_m_Latch_check_cell : PySem.W.findIn K (.ref C_Latch) "check_cell" = some (some (.ref f_m_Latch_check_cell)))
    (fn_m_Latch_check_cell : PySem.W.isFn K (.ref f_m_Latch_check_cell) = true)
    (l_m_Latch_check_cell : K.lookup f_m_Latch_check_cell = some ⟨oc_m_Latch_check_cell, od_m_Latch_check_cell, .func (PySem.W.fnOf "check_cell" "Chip.check_cell" (defArgs sChip_check_cell) (defBody sChip_check_cell) (defScope sChip_check_cell) .none kV_m_Latch_check_cell dc_m_Latch_check_cell pm_m_Latch_check_cell an_m_Latch_check_cell cd_m_Latch_check_cell ct_m_Latch_check_cell), sl_m_Latch_check_cell⟩)
    (c_m_Latch_check_cell : PySem.W.codeIn K cd_m_Latch_check_cell "Chip.check_cell" = true)
    (k_m_Latch_check_cell : PySem.W.keepIn K (.ref f_m_Latch_check_cell) = true)
    (at_m_Latch_check_write : PySem.W.findIn K (.ref C_Latch) "check_write" = some (some (.ref f_m_Latch_check_write)))
    (fn_m_Latch_check_write : PySem.W.isFn K (.ref f_m_Latch_check_write) = true)
    (l_m_Latch_check_write : K.lookup f_m_Latch_check_write = some ⟨oc_m_Latch_check_write, od_m_Latch_check_write, .func (PySem.W.fnOf "check_write" "Chip.check_write" (defArgs sChip_check_write) (defBody sChip_check_write) (defScope sChip_check_write) .none kV_m_Latch_check_write dc_m_Latch_check_write pm_m_Latch_check_write an_m_Latch_check_write cd_m_Latch_check_write ct_m_Latch_check_write), sl_m_Latch_check_write⟩)
    (c_m_Latch_check_write : PySem.W.codeIn K cd_m_Latch_check_write "Chip.check_write" = true)
    (k_m_Latch_check_write : PySem.W.keepIn K (.ref f_m_Latch_check_write) = true)
    (at_m_Latch_look : PySem.W.findIn K (.ref C_Latch) "look" = some (some (.ref f_m_Latch_look)))
    (fn_m_Latch_look : PySem.W.isFn K (.ref f_m_Latch_look) = true)
    (l_m_Latch_look : K.lookup f_m_Latch_look = some ⟨oc_m_Latch_look, od_m_Latch_look, .func (PySem.W.fnOf "look" "Chip.look" (defArgs sChip_look) (defBody sChip_look) (defScope sChip_look) .none kV_m_Latch_look dc_m_Latch_look pm_m_Latch_look an_m_Latch_look cd_m_Latch_look ct_m_Latch_look), sl_m_Latch_look⟩)
    (c_m_Latch_look : PySem.W.codeIn K cd_m_Latch_look "Chip.look" = true)
    (k_m_Latch_look : PySem.W.keepIn K (.ref f_m_Latch_look) = true)
    (at_m_Latch_state : PySem.W.findIn K (.ref C_Latch) "state" = some (some (.ref f_m_Latch_state)))
    (fn_m_Latch_state : PySem.W.isFn K (.ref f_m_Latch_state) = true)
    (l_m_Latch_state : K.lookup f_m_Latch_state = some ⟨oc_m_Latch_state, od_m_Latch_state, .func (PySem.W.fnOf "state" "Chip.state" (defArgs sChip_state) (defBody sChip_state) (defScope sChip_state) .none kV_m_Latch_state dc_m_Latch_state pm_m_Latch_state an_m_Latch_state cd_m_Latch_state ct_m_Latch_state), sl_m_Latch_state⟩)
    (c_m_Latch_state : PySem.W.codeIn K cd_m_Latch_state "Chip.state" = true)
    (k_m_Latch_state : PySem.W.keepIn K (.ref f_m_Latch_state) = true)
    (at_m_Latch_read : PySem.W.findIn K (.ref C_Latch) "read" = some (some (.ref f_m_Latch_read)))
    (fn_m_Latch_read : PySem.W.isFn K (.ref f_m_Latch_read) = true)
    (l_m_Latch_read : K.lookup f_m_Latch_read = some ⟨oc_m_Latch_read, od_m_Latch_read, .func (PySem.W.fnOf "read" "Chip.read" (defArgs sChip_read) (defBody sChip_read) (defScope sChip_read) .none kV_m_Latch_read dc_m_Latch_read pm_m_Latch_read an_m_Latch_read cd_m_Latch_read ct_m_Latch_read), sl_m_Latch_read⟩)
    (c_m_Latch_read : PySem.W.codeIn K cd_m_Latch_read "Chip.read" = true)
    (k_m_Latch_read : PySem.W.keepIn K (.ref f_m_Latch_read) = true)
    (at_m_Latch_write : PySem.W.findIn K (.ref C_Latch) "write" = some (some (.ref f_m_Latch_write)))
    (fn_m_Latch_write : PySem.W.isFn K (.ref f_m_Latch_write) = true)
    (l_m_Latch_write : K.lookup f_m_Latch_write = some ⟨oc_m_Latch_write, od_m_Latch_write, .func (PySem.W.fnOf "write" "Chip.write" (defArgs sChip_write) (defBody sChip_write) (defScope sChip_write) .none kV_m_Latch_write dc_m_Latch_write pm_m_Latch_write an_m_Latch_write cd_m_Latch_write ct_m_Latch_write), sl_m_Latch_write⟩)
    (c_m_Latch_write : PySem.W.codeIn K cd_m_Latch_write "Chip.write" = true)
    (k_m_Latch_write : PySem.W.keepIn K (.ref f_m_Latch_write) = true)
    (at_m_Latch___str__ : PySem.W.findIn K (.ref C_Latch) "__str__" = some (some (.ref f_m_Latch___str__)))
    (fn_m_Latch___str__ : PySem.W.isFn K (.ref f_m_Latch___str__) = true)
    (l_m_Latch___str__ : K.lookup f_m_Latch___str__ = some ⟨oc_m_Latch___str__, od_m_Latch___str__, .func (PySem.W.fnOf "__str__" "Chip.__str__" (defArgs sChip___str__) (defBody sChip___str__) (defScope sChip___str__) .none kV_m_Latch___str__ dc_m_Latch___str__ pm_m_Latch___str__ an_m_Latch___str__ cd_m_Latch___str__ ct_m_Latch___str__), sl_m_Latch___str__⟩)
    (c_m_Latch___str__ : PySem.W.codeIn K cd_m_Latch___str__ "Chip.__str__" = true)
    (k_m_Latch___str__ : PySem.W.keepIn K (.ref f_m_Latch___str__) = true)
    (a_Meter : PySem.W.nsIn K mainGlobals "Meter" = some (some (.ref C_Meter)))
    (pg_Meter : PySem.W.plainGet K C_Meter Str.empty = true)
    (hd_Meter : PySem.W.hasDictIn K C_Meter = true)
    (po_Meter : PySem.W.plainOver K C_Meter = true)
    (sa_Meter : PySem.W.findIn K (.ref C_Meter) "__setattr__" = some (some (.builtin "object.__setattr__")))
    (nhead_Meter : PySem.W.findIn K (.ref C_Meter) "head" = some none)
    (nheld_Meter : PySem.W.findIn K (.ref C_Meter) "held" = some none)
    (nroom_Meter : PySem.W.findIn K (.ref C_Meter) "room" = some none)
    (at_m_Meter___len__ : PySem.W.findIn K (.ref C_Meter) "__len__" = some (some (.ref f_m_Meter___len__)))
    (fn_m_Meter___len__ : PySem.W.isFn K (.ref f_m_Meter___len__) = true)
    (l_m_Meter___len__ : K.lookup f_m_Meter___len__ = some ⟨oc_m_Meter___len__, od_m_Meter___len__, .func (PySem.W.fnOf "__len__" "Chip.__len__" (defArgs sChip___len__) (defBody sChip___len__) (defScope sChip___len__) .none kV_m_Meter___len__ dc_m_Meter___len__ pm_m_Meter___len__ an_m_Meter___len__ cd_m_Meter___len__ ct_m_Meter___len__), sl_m_Meter___len__⟩)
    (c_m_Meter___len__ : PySem.W.codeIn K cd_m_Meter___len__ "Chip.__len__" = true)
    (k_m_Meter___len__ : PySem.W.keepIn K (.ref f_m_Meter___len__) = true)
    (at_m_Meter_check_cell : PySem.W.findIn K (.ref C_Meter) "check_cell" = some (some (.ref f_m_Meter_check_cell)))
    (fn_m_Meter_check_cell : PySem.W.isFn K (.ref f_m_Meter_check_cell) = true)
    (l_m_Meter_check_cell : K.lookup f_m_Meter_check_cell = some ⟨oc_m_Meter_check_cell, od_m_Meter_check_cell, .func (PySem.W.fnOf "check_cell" "Chip.check_cell" (defArgs sChip_check_cell) (defBody sChip_check_cell) (defScope sChip_check_cell) .none kV_m_Meter_check_cell dc_m_Meter_check_cell pm_m_Meter_check_cell an_m_Meter_check_cell cd_m_Meter_check_cell ct_m_Meter_check_cell), sl_m_Meter_check_cell⟩)
    (c_m_Meter_check_cell : PySem.W.codeIn K cd_m_Meter_check_cell "Chip.check_cell" = true)
    (k_m_Meter_check_cell : PySem.W.keepIn K (.ref f_m_Meter_check_cell) = true)
    (at_m_Meter_check_write : PySem.W.findIn K (.ref C_Meter) "check_write" = some (some (.ref f_m_Meter_check_write)))
    (fn_m_Meter_check_write : PySem.W.isFn K (.ref f_m_Meter_check_write) = true)
    (l_m_Meter_check_write : K.lookup f_m_Meter_check_write = some ⟨oc_m_Meter_check_write, od_m_Meter_check_write, .func (PySem.W.fnOf "check_write" "Chip.check_write" (defArgs sChip_check_write) (defBody sChip_check_write) (defScope sChip_check_write) .none kV_m_Meter_check_write dc_m_Meter_check_write pm_m_Meter_check_write an_m_Meter_check_write cd_m_Meter_check_write ct_m_Meter_check_write), sl_m_Meter_check_write⟩)
    (c_m_Meter_check_write : PySem.W.codeIn K cd_m_Meter_check_write "Chip.check_write" = true)
    (k_m_Meter_check_write : PySem.W.keepIn K (.ref f_m_Meter_check_write) = true)
    (at_m_Meter_look : PySem.W.findIn K (.ref C_Meter) "look" = some (some (.ref f_m_Meter_look)))
    (fn_m_Meter_look : PySem.W.isFn K (.ref f_m_Meter_look) = true)
    (l_m_Meter_look : K.lookup f_m_Meter_look = some ⟨oc_m_Meter_look, od_m_Meter_look, .func (PySem.W.fnOf "look" "Chip.look" (defArgs sChip_look) (defBody sChip_look) (defScope sChip_look) .none kV_m_Meter_look dc_m_Meter_look pm_m_Meter_look an_m_Meter_look cd_m_Meter_look ct_m_Meter_look), sl_m_Meter_look⟩)
    (c_m_Meter_look : PySem.W.codeIn K cd_m_Meter_look "Chip.look" = true)
    (k_m_Meter_look : PySem.W.keepIn K (.ref f_m_Meter_look) = true)
    (at_m_Meter_state : PySem.W.findIn K (.ref C_Meter) "state" = some (some (.ref f_m_Meter_state)))
    (fn_m_Meter_state : PySem.W.isFn K (.ref f_m_Meter_state) = true)
    (l_m_Meter_state : K.lookup f_m_Meter_state = some ⟨oc_m_Meter_state, od_m_Meter_state, .func (PySem.W.fnOf "state" "Chip.state" (defArgs sChip_state) (defBody sChip_state) (defScope sChip_state) .none kV_m_Meter_state dc_m_Meter_state pm_m_Meter_state an_m_Meter_state cd_m_Meter_state ct_m_Meter_state), sl_m_Meter_state⟩)
    (c_m_Meter_state : PySem.W.codeIn K cd_m_Meter_state "Chip.state" = true)
    (k_m_Meter_state : PySem.W.keepIn K (.ref f_m_Meter_state) = true)
    (at_m_Meter_read : PySem.W.findIn K (.ref C_Meter) "read" = some (some (.ref f_m_Meter_read)))
    (fn_m_Meter_read : PySem.W.isFn K (.ref f_m_Meter_read) = true)
    (l_m_Meter_read : K.lookup f_m_Meter_read = some ⟨oc_m_Meter_read, od_m_Meter_read, .func (PySem.W.fnOf "read" "Meter.read" (defArgs sMeter_read) (defBody sMeter_read) (defScope sMeter_read) .none kV_m_Meter_read dc_m_Meter_read pm_m_Meter_read an_m_Meter_read cd_m_Meter_read ct_m_Meter_read), sl_m_Meter_read⟩)
    (c_m_Meter_read : PySem.W.codeIn K cd_m_Meter_read "Meter.read" = true)
    (k_m_Meter_read : PySem.W.keepIn K (.ref f_m_Meter_read) = true)
    (at_m_Meter_write : PySem.W.findIn K (.ref C_Meter) "write" = some (some (.ref f_m_Meter_write)))
    (fn_m_Meter_write : PySem.W.isFn K (.ref f_m_Meter_write) = true)
    (l_m_Meter_write : K.lookup f_m_Meter_write = some ⟨oc_m_Meter_write, od_m_Meter_write, .func (PySem.W.fnOf "write" "Chip.write" (defArgs sChip_write) (defBody sChip_write) (defScope sChip_write) .none kV_m_Meter_write dc_m_Meter_write pm_m_Meter_write an_m_Meter_write cd_m_Meter_write ct_m_Meter_write), sl_m_Meter_write⟩)
    (c_m_Meter_write : PySem.W.codeIn K cd_m_Meter_write "Chip.write" = true)
    (k_m_Meter_write : PySem.W.keepIn K (.ref f_m_Meter_write) = true)
    (at_m_Meter___str__ : PySem.W.findIn K (.ref C_Meter) "__str__" = some (some (.ref f_m_Meter___str__)))
    (fn_m_Meter___str__ : PySem.W.isFn K (.ref f_m_Meter___str__) = true)
    (l_m_Meter___str__ : K.lookup f_m_Meter___str__ = some ⟨oc_m_Meter___str__, od_m_Meter___str__, .func (PySem.W.fnOf "__str__" "Chip.__str__" (defArgs sChip___str__) (defBody sChip___str__) (defScope sChip___str__) .none kV_m_Meter___str__ dc_m_Meter___str__ pm_m_Meter___str__ an_m_Meter___str__ cd_m_Meter___str__ ct_m_Meter___str__), sl_m_Meter___str__⟩)
    (c_m_Meter___str__ : PySem.W.codeIn K cd_m_Meter___str__ "Chip.__str__" = true)
    (k_m_Meter___str__ : PySem.W.keepIn K (.ref f_m_Meter___str__) = true)
    (a_Pipe : PySem.W.nsIn K mainGlobals "Pipe" = some (some (.ref C_Pipe)))
    (pg_Pipe : PySem.W.plainGet K C_Pipe Str.empty = true)
    (hd_Pipe : PySem.W.hasDictIn K C_Pipe = true)
    (po_Pipe : PySem.W.plainOver K C_Pipe = true)
    (sa_Pipe : PySem.W.findIn K (.ref C_Pipe) "__setattr__" = some (some (.builtin "object.__setattr__")))
    (nhead_Pipe : PySem.W.findIn K (.ref C_Pipe) "head" = some none)
    (nheld_Pipe : PySem.W.findIn K (.ref C_Pipe) "held" = some none)
    (nroom_Pipe : PySem.W.findIn K (.ref C_Pipe) "room" = some none)
    (at_m_Pipe___len__ : PySem.W.findIn K (.ref C_Pipe) "__len__" = some (some (.ref f_m_Pipe___len__)))
    (fn_m_Pipe___len__ : PySem.W.isFn K (.ref f_m_Pipe___len__) = true)
    (l_m_Pipe___len__ : K.lookup f_m_Pipe___len__ = some ⟨oc_m_Pipe___len__, od_m_Pipe___len__, .func (PySem.W.fnOf "__len__" "Pipe.__len__" (defArgs sPipe___len__) (defBody sPipe___len__) (defScope sPipe___len__) .none kV_m_Pipe___len__ dc_m_Pipe___len__ pm_m_Pipe___len__ an_m_Pipe___len__ cd_m_Pipe___len__ ct_m_Pipe___len__), sl_m_Pipe___len__⟩)
    (c_m_Pipe___len__ : PySem.W.codeIn K cd_m_Pipe___len__ "Pipe.__len__" = true)
    (k_m_Pipe___len__ : PySem.W.keepIn K (.ref f_m_Pipe___len__) = true)
    (at_m_Pipe_check_cell : PySem.W.findIn K (.ref C_Pipe) "check_cell" = some (some (.ref f_m_Pipe_check_cell)))
    (fn_m_Pipe_check_cell : PySem.W.isFn K (.ref f_m_Pipe_check_cell) = true)
    (l_m_Pipe_check_cell : K.lookup f_m_Pipe_check_cell = some ⟨oc_m_Pipe_check_cell, od_m_Pipe_check_cell, .func (PySem.W.fnOf "check_cell" "Chip.check_cell" (defArgs sChip_check_cell) (defBody sChip_check_cell) (defScope sChip_check_cell) .none kV_m_Pipe_check_cell dc_m_Pipe_check_cell pm_m_Pipe_check_cell an_m_Pipe_check_cell cd_m_Pipe_check_cell ct_m_Pipe_check_cell), sl_m_Pipe_check_cell⟩)
    (c_m_Pipe_check_cell : PySem.W.codeIn K cd_m_Pipe_check_cell "Chip.check_cell" = true)
    (k_m_Pipe_check_cell : PySem.W.keepIn K (.ref f_m_Pipe_check_cell) = true)
    (at_m_Pipe_check_write : PySem.W.findIn K (.ref C_Pipe) "check_write" = some (some (.ref f_m_Pipe_check_write)))
    (fn_m_Pipe_check_write : PySem.W.isFn K (.ref f_m_Pipe_check_write) = true)
    (l_m_Pipe_check_write : K.lookup f_m_Pipe_check_write = some ⟨oc_m_Pipe_check_write, od_m_Pipe_check_write, .func (PySem.W.fnOf "check_write" "Chip.check_write" (defArgs sChip_check_write) (defBody sChip_check_write) (defScope sChip_check_write) .none kV_m_Pipe_check_write dc_m_Pipe_check_write pm_m_Pipe_check_write an_m_Pipe_check_write cd_m_Pipe_check_write ct_m_Pipe_check_write), sl_m_Pipe_check_write⟩)
    (c_m_Pipe_check_write : PySem.W.codeIn K cd_m_Pipe_check_write "Chip.check_write" = true)
    (k_m_Pipe_check_write : PySem.W.keepIn K (.ref f_m_Pipe_check_write) = true)
    (at_m_Pipe_look : PySem.W.findIn K (.ref C_Pipe) "look" = some (some (.ref f_m_Pipe_look)))
    (fn_m_Pipe_look : PySem.W.isFn K (.ref f_m_Pipe_look) = true)
    (l_m_Pipe_look : K.lookup f_m_Pipe_look = some ⟨oc_m_Pipe_look, od_m_Pipe_look, .func (PySem.W.fnOf "look" "Pipe.look" (defArgs sPipe_look) (defBody sPipe_look) (defScope sPipe_look) .none kV_m_Pipe_look dc_m_Pipe_look pm_m_Pipe_look an_m_Pipe_look cd_m_Pipe_look ct_m_Pipe_look), sl_m_Pipe_look⟩)
    (c_m_Pipe_look : PySem.W.codeIn K cd_m_Pipe_look "Pipe.look" = true)
    (k_m_Pipe_look : PySem.W.keepIn K (.ref f_m_Pipe_look) = true)
    (at_m_Pipe_state : PySem.W.findIn K (.ref C_Pipe) "state" = some (some (.ref f_m_Pipe_state)))
    (fn_m_Pipe_state : PySem.W.isFn K (.ref f_m_Pipe_state) = true)
    (l_m_Pipe_state : K.lookup f_m_Pipe_state = some ⟨oc_m_Pipe_state, od_m_Pipe_state, .func (PySem.W.fnOf "state" "Chip.state" (defArgs sChip_state) (defBody sChip_state) (defScope sChip_state) .none kV_m_Pipe_state dc_m_Pipe_state pm_m_Pipe_state an_m_Pipe_state cd_m_Pipe_state ct_m_Pipe_state), sl_m_Pipe_state⟩)
    (c_m_Pipe_state : PySem.W.codeIn K cd_m_Pipe_state "Chip.state" = true)
    (k_m_Pipe_state : PySem.W.keepIn K (.ref f_m_Pipe_state) = true)
    (at_m_Pipe_read : PySem.W.findIn K (.ref C_Pipe) "read" = some (some (.ref f_m_Pipe_read)))
    (fn_m_Pipe_read : PySem.W.isFn K (.ref f_m_Pipe_read) = true)
    (l_m_Pipe_read : K.lookup f_m_Pipe_read = some ⟨oc_m_Pipe_read, od_m_Pipe_read, .func (PySem.W.fnOf "read" "Pipe.read" (defArgs sPipe_read) (defBody sPipe_read) (defScope sPipe_read) .none kV_m_Pipe_read dc_m_Pipe_read pm_m_Pipe_read an_m_Pipe_read cd_m_Pipe_read ct_m_Pipe_read), sl_m_Pipe_read⟩)
    (c_m_Pipe_read : PySem.W.codeIn K cd_m_Pipe_read "Pipe.read" = true)
    (k_m_Pipe_read : PySem.W.keepIn K (.ref f_m_Pipe_read) = true)
    (at_m_Pipe_write : PySem.W.findIn K (.ref C_Pipe) "write" = some (some (.ref f_m_Pipe_write)))
    (fn_m_Pipe_write : PySem.W.isFn K (.ref f_m_Pipe_write) = true)
    (l_m_Pipe_write : K.lookup f_m_Pipe_write = some ⟨oc_m_Pipe_write, od_m_Pipe_write, .func (PySem.W.fnOf "write" "Pipe.write" (defArgs sPipe_write) (defBody sPipe_write) (defScope sPipe_write) .none kV_m_Pipe_write dc_m_Pipe_write pm_m_Pipe_write an_m_Pipe_write cd_m_Pipe_write ct_m_Pipe_write), sl_m_Pipe_write⟩)
    (c_m_Pipe_write : PySem.W.codeIn K cd_m_Pipe_write "Pipe.write" = true)
    (k_m_Pipe_write : PySem.W.keepIn K (.ref f_m_Pipe_write) = true)
    (at_m_Pipe___str__ : PySem.W.findIn K (.ref C_Pipe) "__str__" = some (some (.ref f_m_Pipe___str__)))
    (fn_m_Pipe___str__ : PySem.W.isFn K (.ref f_m_Pipe___str__) = true)
    (l_m_Pipe___str__ : K.lookup f_m_Pipe___str__ = some ⟨oc_m_Pipe___str__, od_m_Pipe___str__, .func (PySem.W.fnOf "__str__" "Chip.__str__" (defArgs sChip___str__) (defBody sChip___str__) (defScope sChip___str__) .none kV_m_Pipe___str__ dc_m_Pipe___str__ pm_m_Pipe___str__ an_m_Pipe___str__ cd_m_Pipe___str__ ct_m_Pipe___str__), sl_m_Pipe___str__⟩)
    (c_m_Pipe___str__ : PySem.W.codeIn K cd_m_Pipe___str__ "Chip.__str__" = true)
    (k_m_Pipe___str__ : PySem.W.keepIn K (.ref f_m_Pipe___str__) = true)
    (t1_Store : PySem.W.findIn K (.ref C_Store) "__class__" = some (some (.builtin "object.__class__")))
    (t2_Store : PySem.W.specialIn K (.builtin "object.__class__") "__get__" = some (some (.builtin "getset_descriptor.__get__")))
    (t3_Store : PySem.W.takesIn K (.builtin "object.__class__") = some true)
    (t4_Store : PySem.W.mroIn K C_Store (.type "object") = some true)
    (t5_Store : PySem.W.isIn K (.ref C_Store) C_Chip = true)
    (n1_Store : PySem.W.findIn K (.ref C_Store) "__ne__" = some (some (.builtin "object.__ne__")))
    (n2_Store : PySem.W.subIn K (.ref C_Store) (.type "object") = some true)
    (t1_Fixed : PySem.W.findIn K (.ref C_Fixed) "__class__" = some (some (.builtin "object.__class__")))
    (t2_Fixed : PySem.W.specialIn K (.builtin "object.__class__") "__get__" = some (some (.builtin "getset_descriptor.__get__")))
    (t3_Fixed : PySem.W.takesIn K (.builtin "object.__class__") = some true)
    (t4_Fixed : PySem.W.mroIn K C_Fixed (.type "object") = some true)
    (t5_Fixed : PySem.W.isIn K (.ref C_Fixed) C_Chip = true)
    (n1_Fixed : PySem.W.findIn K (.ref C_Fixed) "__ne__" = some (some (.builtin "object.__ne__")))
    (n2_Fixed : PySem.W.subIn K (.ref C_Fixed) (.type "object") = some true)
    (t1_Latch : PySem.W.findIn K (.ref C_Latch) "__class__" = some (some (.builtin "object.__class__")))
    (t2_Latch : PySem.W.specialIn K (.builtin "object.__class__") "__get__" = some (some (.builtin "getset_descriptor.__get__")))
    (t3_Latch : PySem.W.takesIn K (.builtin "object.__class__") = some true)
    (t4_Latch : PySem.W.mroIn K C_Latch (.type "object") = some true)
    (t5_Latch : PySem.W.isIn K (.ref C_Latch) C_Chip = true)
    (n1_Latch : PySem.W.findIn K (.ref C_Latch) "__ne__" = some (some (.builtin "object.__ne__")))
    (n2_Latch : PySem.W.subIn K (.ref C_Latch) (.type "object") = some true)
    (t1_Meter : PySem.W.findIn K (.ref C_Meter) "__class__" = some (some (.builtin "object.__class__")))
    (t2_Meter : PySem.W.specialIn K (.builtin "object.__class__") "__get__" = some (some (.builtin "getset_descriptor.__get__")))
    (t3_Meter : PySem.W.takesIn K (.builtin "object.__class__") = some true)
    (t4_Meter : PySem.W.mroIn K C_Meter (.type "object") = some true)
    (t5_Meter : PySem.W.isIn K (.ref C_Meter) C_Chip = true)
    (n1_Meter : PySem.W.findIn K (.ref C_Meter) "__ne__" = some (some (.builtin "object.__ne__")))
    (n2_Meter : PySem.W.subIn K (.ref C_Meter) (.type "object") = some true)
    (t1_Pipe : PySem.W.findIn K (.ref C_Pipe) "__class__" = some (some (.builtin "object.__class__")))
    (t2_Pipe : PySem.W.specialIn K (.builtin "object.__class__") "__get__" = some (some (.builtin "getset_descriptor.__get__")))
    (t3_Pipe : PySem.W.takesIn K (.builtin "object.__class__") = some true)
    (t4_Pipe : PySem.W.mroIn K C_Pipe (.type "object") = some true)
    (t5_Pipe : PySem.W.isIn K (.ref C_Pipe) C_Chip = true)
    (n1_Pipe : PySem.W.findIn K (.ref C_Pipe) "__ne__" = some (some (.builtin "object.__ne__")))
    (n2_Pipe : PySem.W.subIn K (.ref C_Pipe) (.type "object") = some true)
    (at_m_Store___eq__ : PySem.W.findIn K (.ref C_Store) "__eq__" = some (some (.ref f_m_Store___eq__)))
    (fn_m_Store___eq__ : PySem.W.isFn K (.ref f_m_Store___eq__) = true)
    (l_m_Store___eq__ : K.lookup f_m_Store___eq__ = some ⟨oc_m_Store___eq__, od_m_Store___eq__, .func (PySem.W.fnOf "__eq__" "Chip.__eq__" (defArgs sChip___eq__) (defBody sChip___eq__) (defScope sChip___eq__) .none kV_m_Store___eq__ dc_m_Store___eq__ pm_m_Store___eq__ an_m_Store___eq__ cd_m_Store___eq__ ct_m_Store___eq__), sl_m_Store___eq__⟩)
    (c_m_Store___eq__ : PySem.W.codeIn K cd_m_Store___eq__ "Chip.__eq__" = true)
    (k_m_Store___eq__ : PySem.W.keepIn K (.ref f_m_Store___eq__) = true)
    (at_m_Fixed___eq__ : PySem.W.findIn K (.ref C_Fixed) "__eq__" = some (some (.ref f_m_Fixed___eq__)))
    (fn_m_Fixed___eq__ : PySem.W.isFn K (.ref f_m_Fixed___eq__) = true)
    (l_m_Fixed___eq__ : K.lookup f_m_Fixed___eq__ = some ⟨oc_m_Fixed___eq__, od_m_Fixed___eq__, .func (PySem.W.fnOf "__eq__" "Chip.__eq__" (defArgs sChip___eq__) (defBody sChip___eq__) (defScope sChip___eq__) .none kV_m_Fixed___eq__ dc_m_Fixed___eq__ pm_m_Fixed___eq__ an_m_Fixed___eq__ cd_m_Fixed___eq__ ct_m_Fixed___eq__), sl_m_Fixed___eq__⟩)
    (c_m_Fixed___eq__ : PySem.W.codeIn K cd_m_Fixed___eq__ "Chip.__eq__" = true)
    (k_m_Fixed___eq__ : PySem.W.keepIn K (.ref f_m_Fixed___eq__) = true)
    (at_m_Latch___eq__ : PySem.W.findIn K (.ref C_Latch) "__eq__" = some (some (.ref f_m_Latch___eq__)))
    (fn_m_Latch___eq__ : PySem.W.isFn K (.ref f_m_Latch___eq__) = true)
    (l_m_Latch___eq__ : K.lookup f_m_Latch___eq__ = some ⟨oc_m_Latch___eq__, od_m_Latch___eq__, .func (PySem.W.fnOf "__eq__" "Chip.__eq__" (defArgs sChip___eq__) (defBody sChip___eq__) (defScope sChip___eq__) .none kV_m_Latch___eq__ dc_m_Latch___eq__ pm_m_Latch___eq__ an_m_Latch___eq__ cd_m_Latch___eq__ ct_m_Latch___eq__), sl_m_Latch___eq__⟩)
    (c_m_Latch___eq__ : PySem.W.codeIn K cd_m_Latch___eq__ "Chip.__eq__" = true)
    (k_m_Latch___eq__ : PySem.W.keepIn K (.ref f_m_Latch___eq__) = true)
    (at_m_Meter___eq__ : PySem.W.findIn K (.ref C_Meter) "__eq__" = some (some (.ref f_m_Meter___eq__)))
    (fn_m_Meter___eq__ : PySem.W.isFn K (.ref f_m_Meter___eq__) = true)
    (l_m_Meter___eq__ : K.lookup f_m_Meter___eq__ = some ⟨oc_m_Meter___eq__, od_m_Meter___eq__, .func (PySem.W.fnOf "__eq__" "Chip.__eq__" (defArgs sChip___eq__) (defBody sChip___eq__) (defScope sChip___eq__) .none kV_m_Meter___eq__ dc_m_Meter___eq__ pm_m_Meter___eq__ an_m_Meter___eq__ cd_m_Meter___eq__ ct_m_Meter___eq__), sl_m_Meter___eq__⟩)
    (c_m_Meter___eq__ : PySem.W.codeIn K cd_m_Meter___eq__ "Chip.__eq__" = true)
    (k_m_Meter___eq__ : PySem.W.keepIn K (.ref f_m_Meter___eq__) = true)
    (at_m_Pipe___eq__ : PySem.W.findIn K (.ref C_Pipe) "__eq__" = some (some (.ref f_m_Pipe___eq__)))
    (fn_m_Pipe___eq__ : PySem.W.isFn K (.ref f_m_Pipe___eq__) = true)
    (l_m_Pipe___eq__ : K.lookup f_m_Pipe___eq__ = some ⟨oc_m_Pipe___eq__, od_m_Pipe___eq__, .func (PySem.W.fnOf "__eq__" "Chip.__eq__" (defArgs sChip___eq__) (defBody sChip___eq__) (defScope sChip___eq__) .none kV_m_Pipe___eq__ dc_m_Pipe___eq__ pm_m_Pipe___eq__ an_m_Pipe___eq__ cd_m_Pipe___eq__ ct_m_Pipe___eq__), sl_m_Pipe___eq__⟩)
    (c_m_Pipe___eq__ : PySem.W.codeIn K cd_m_Pipe___eq__ "Chip.__eq__" = true)
    (k_m_Pipe___eq__ : PySem.W.keepIn K (.ref f_m_Pipe___eq__) = true)
    (mk_i_Store : PySem.W.makesIn K C_Store = true)
    (kc_i_Store : PySem.W.keepIn K (.ref C_Store) = true)
    (at_i_Store : PySem.W.findIn K (.ref C_Store) "__init__" = some (some (.ref f_i_Store)))
    (fn_i_Store : PySem.W.isFn K (.ref f_i_Store) = true)
    (l_i_Store : K.lookup f_i_Store = some ⟨oc_i_Store, od_i_Store, .func (PySem.W.fnOf "__init__" "Store.__init__" (defArgs sStore___init__) (defBody sStore___init__) (defScope sStore___init__) (.ref T_i_Store) kV_i_Store dc_i_Store pm_i_Store an_i_Store cd_i_Store ct_i_Store), sl_i_Store⟩)
    (c_i_Store : PySem.W.codeIn K cd_i_Store "Store.__init__" = true)
    (k_i_Store : PySem.W.keepIn K (.ref f_i_Store) = true)
    (d_i_Store : K.lookup T_i_Store = some ⟨tc_i_Store, td_i_Store, .seq #[.int 0 tt_i_Store] tn_i_Store, ts_i_Store⟩)
    (mk_i_Fixed : PySem.W.makesIn K C_Fixed = true)
    (kc_i_Fixed : PySem.W.keepIn K (.ref C_Fixed) = true)
    (at_i_Fixed : PySem.W.findIn K (.ref C_Fixed) "__init__" = some (some (.ref f_i_Fixed)))
    (fn_i_Fixed : PySem.W.isFn K (.ref f_i_Fixed) = true)
    (l_i_Fixed : K.lookup f_i_Fixed = some ⟨oc_i_Fixed, od_i_Fixed, .func (PySem.W.fnOf "__init__" "Fixed.__init__" (defArgs sFixed___init__) (defBody sFixed___init__) (defScope sFixed___init__) .none kV_i_Fixed dc_i_Fixed pm_i_Fixed an_i_Fixed cd_i_Fixed ct_i_Fixed), sl_i_Fixed⟩)
    (c_i_Fixed : PySem.W.codeIn K cd_i_Fixed "Fixed.__init__" = true)
    (k_i_Fixed : PySem.W.keepIn K (.ref f_i_Fixed) = true)
    (mk_i_Latch : PySem.W.makesIn K C_Latch = true)
    (kc_i_Latch : PySem.W.keepIn K (.ref C_Latch) = true)
    (at_i_Latch : PySem.W.findIn K (.ref C_Latch) "__init__" = some (some (.ref f_i_Latch)))
    (fn_i_Latch : PySem.W.isFn K (.ref f_i_Latch) = true)
    (l_i_Latch : K.lookup f_i_Latch = some ⟨oc_i_Latch, od_i_Latch, .func (PySem.W.fnOf "__init__" "Latch.__init__" (defArgs sLatch___init__) (defBody sLatch___init__) (defScope sLatch___init__) (.ref T_i_Latch) kV_i_Latch dc_i_Latch pm_i_Latch an_i_Latch cd_i_Latch ct_i_Latch), sl_i_Latch⟩)
    (c_i_Latch : PySem.W.codeIn K cd_i_Latch "Latch.__init__" = true)
    (k_i_Latch : PySem.W.keepIn K (.ref f_i_Latch) = true)
    (d_i_Latch : K.lookup T_i_Latch = some ⟨tc_i_Latch, td_i_Latch, .seq #[.int 0 tt_i_Latch] tn_i_Latch, ts_i_Latch⟩)
    (mk_i_Meter : PySem.W.makesIn K C_Meter = true)
    (kc_i_Meter : PySem.W.keepIn K (.ref C_Meter) = true)
    (at_i_Meter : PySem.W.findIn K (.ref C_Meter) "__init__" = some (some (.ref f_i_Meter)))
    (fn_i_Meter : PySem.W.isFn K (.ref f_i_Meter) = true)
    (l_i_Meter : K.lookup f_i_Meter = some ⟨oc_i_Meter, od_i_Meter, .func (PySem.W.fnOf "__init__" "Meter.__init__" (defArgs sMeter___init__) (defBody sMeter___init__) (defScope sMeter___init__) (.ref T_i_Meter) kV_i_Meter dc_i_Meter pm_i_Meter an_i_Meter cd_i_Meter ct_i_Meter), sl_i_Meter⟩)
    (c_i_Meter : PySem.W.codeIn K cd_i_Meter "Meter.__init__" = true)
    (k_i_Meter : PySem.W.keepIn K (.ref f_i_Meter) = true)
    (d_i_Meter : K.lookup T_i_Meter = some ⟨tc_i_Meter, td_i_Meter, .seq #[.int 0 tt_i_Meter] tn_i_Meter, ts_i_Meter⟩)
    (mk_i_Pipe : PySem.W.makesIn K C_Pipe = true)
    (kc_i_Pipe : PySem.W.keepIn K (.ref C_Pipe) = true)
    (at_i_Pipe : PySem.W.findIn K (.ref C_Pipe) "__init__" = some (some (.ref f_i_Pipe)))
    (fn_i_Pipe : PySem.W.isFn K (.ref f_i_Pipe) = true)
    (l_i_Pipe : K.lookup f_i_Pipe = some ⟨oc_i_Pipe, od_i_Pipe, .func (PySem.W.fnOf "__init__" "Pipe.__init__" (defArgs sPipe___init__) (defBody sPipe___init__) (defScope sPipe___init__) (.ref T_i_Pipe) kV_i_Pipe dc_i_Pipe pm_i_Pipe an_i_Pipe cd_i_Pipe ct_i_Pipe), sl_i_Pipe⟩)
    (c_i_Pipe : PySem.W.codeIn K cd_i_Pipe "Pipe.__init__" = true)
    (k_i_Pipe : PySem.W.keepIn K (.ref f_i_Pipe) = true)
    (d_i_Pipe : K.lookup T_i_Pipe = some ⟨tc_i_Pipe, td_i_Pipe, .seq #[.int 4 tt_i_Pipe] tn_i_Pipe, ts_i_Pipe⟩)
    (a0__law_cell_at : PySem.W.nsIn K mainGlobals "_law_cell_at" = some (some (.ref f__law_cell_at)))
    (l__law_cell_at : K.lookup f__law_cell_at = some ⟨oc__law_cell_at, od__law_cell_at, .func (PySem.W.fnOf "_law_cell_at" "_law_cell_at" (defArgs s_law_cell_at) (defBody s_law_cell_at) (defScope s_law_cell_at) .none kV__law_cell_at dc__law_cell_at pm__law_cell_at an__law_cell_at cd__law_cell_at ct__law_cell_at), sl__law_cell_at⟩)
    (c__law_cell_at : PySem.W.codeIn K cd__law_cell_at "_law_cell_at" = true)
    (k__law_cell_at : PySem.W.keepIn K (.ref f__law_cell_at) = true)
    (a0__law_bag : PySem.W.nsIn K mainGlobals "_law_bag" = some (some (.ref f__law_bag)))
    (l__law_bag : K.lookup f__law_bag = some ⟨oc__law_bag, od__law_bag, .func (PySem.W.fnOf "_law_bag" "_law_bag" (defArgs s_law_bag) (defBody s_law_bag) (defScope s_law_bag) .none kV__law_bag dc__law_bag pm__law_bag an__law_bag cd__law_bag ct__law_bag), sl__law_bag⟩)
    (c__law_bag : PySem.W.codeIn K cd__law_bag "_law_bag" = true)
    (k__law_bag : PySem.W.keepIn K (.ref f__law_bag) = true)
    (a0__law_draw : PySem.W.nsIn K mainGlobals "_law_draw" = some (some (.ref f__law_draw)))
    (l__law_draw : K.lookup f__law_draw = some ⟨oc__law_draw, od__law_draw, .func (PySem.W.fnOf "_law_draw" "_law_draw" (defArgs s_law_draw) (defBody s_law_draw) (defScope s_law_draw) .none kV__law_draw dc__law_draw pm__law_draw an__law_draw cd__law_draw ct__law_draw), sl__law_draw⟩)
    (c__law_draw : PySem.W.codeIn K cd__law_draw "_law_draw" = true)
    (k__law_draw : PySem.W.keepIn K (.ref f__law_draw) = true)
    (a0__law_alike : PySem.W.nsIn K mainGlobals "_law_alike" = some (some (.ref f__law_alike)))
    (l__law_alike : K.lookup f__law_alike = some ⟨oc__law_alike, od__law_alike, .func (PySem.W.fnOf "_law_alike" "_law_alike" (defArgs s_law_alike) (defBody s_law_alike) (defScope s_law_alike) .none kV__law_alike dc__law_alike pm__law_alike an__law_alike cd__law_alike ct__law_alike), sl__law_alike⟩)
    (c__law_alike : PySem.W.codeIn K cd__law_alike "_law_alike" = true)
    (k__law_alike : PySem.W.keepIn K (.ref f__law_alike) = true)
    (a0__law_word : PySem.W.nsIn K mainGlobals "_law_word" = some (some (.ref f__law_word)))
    (l__law_word : K.lookup f__law_word = some ⟨oc__law_word, od__law_word, .func (PySem.W.fnOf "_law_word" "_law_word" (defArgs s_law_word) (defBody s_law_word) (defScope s_law_word) .none kV__law_word dc__law_word pm__law_word an__law_word cd__law_word ct__law_word), sl__law_word⟩)
    (c__law_word : PySem.W.codeIn K cd__law_word "_law_word" = true)
    (k__law_word : PySem.W.keepIn K (.ref f__law_word) = true)
    (a0_only_word : PySem.W.nsIn K mainGlobals "only_word" = some (some (.ref f_only_word)))
    (l_only_word : K.lookup f_only_word = some ⟨oc_only_word, od_only_word, .func (PySem.W.fnOf "only_word" "only_word" (defArgs sonly_word) (defBody sonly_word) (defScope sonly_word) .none kV_only_word dc_only_word pm_only_word an_only_word cd_only_word ct_only_word), sl_only_word⟩)
    (c_only_word : PySem.W.codeIn K cd_only_word "only_word" = true)
    (k_only_word : PySem.W.keepIn K (.ref f_only_word) = true)
    (a0_are_figures : PySem.W.nsIn K mainGlobals "are_figures" = some (some (.ref f_are_figures)))
    (l_are_figures : K.lookup f_are_figures = some ⟨oc_are_figures, od_are_figures, .func (PySem.W.fnOf "are_figures" "are_figures" (defArgs sare_figures) (defBody sare_figures) (defScope sare_figures) .none kV_are_figures dc_are_figures pm_are_figures an_are_figures cd_are_figures ct_are_figures), sl_are_figures⟩)
    (c_are_figures : PySem.W.codeIn K cd_are_figures "are_figures" = true)
    (k_are_figures : PySem.W.keepIn K (.ref f_are_figures) = true)
    (a0_sixteen_of : PySem.W.nsIn K mainGlobals "sixteen_of" = some (some (.ref f_sixteen_of)))
    (l_sixteen_of : K.lookup f_sixteen_of = some ⟨oc_sixteen_of, od_sixteen_of, .func (PySem.W.fnOf "sixteen_of" "sixteen_of" (defArgs ssixteen_of) (defBody ssixteen_of) (defScope ssixteen_of) .none kV_sixteen_of dc_sixteen_of pm_sixteen_of an_sixteen_of cd_sixteen_of ct_sixteen_of), sl_sixteen_of⟩)
    (c_sixteen_of : PySem.W.codeIn K cd_sixteen_of "sixteen_of" = true)
    (k_sixteen_of : PySem.W.keepIn K (.ref f_sixteen_of) = true)
    (a0_read_sixteen : PySem.W.nsIn K mainGlobals "read_sixteen" = some (some (.ref f_read_sixteen)))
    (l_read_sixteen : K.lookup f_read_sixteen = some ⟨oc_read_sixteen, od_read_sixteen, .func (PySem.W.fnOf "read_sixteen" "read_sixteen" (defArgs sread_sixteen) (defBody sread_sixteen) (defScope sread_sixteen) .none kV_read_sixteen dc_read_sixteen pm_read_sixteen an_read_sixteen cd_read_sixteen ct_read_sixteen), sl_read_sixteen⟩)
    (c_read_sixteen : PySem.W.codeIn K cd_read_sixteen "read_sixteen" = true)
    (k_read_sixteen : PySem.W.keepIn K (.ref f_read_sixteen) = true)
    (a0_read_word : PySem.W.nsIn K mainGlobals "read_word" = some (some (.ref f_read_word)))
    (l_read_word : K.lookup f_read_word = some ⟨oc_read_word, od_read_word, .func (PySem.W.fnOf "read_word" "read_word" (defArgs sread_word) (defBody sread_word) (defScope sread_word) .none kV_read_word dc_read_word pm_read_word an_read_word cd_read_word ct_read_word), sl_read_word⟩)
    (c_read_word : PySem.W.codeIn K cd_read_word "read_word" = true)
    (k_read_word : PySem.W.keepIn K (.ref f_read_word) = true)
    (a0_fixed_of : PySem.W.nsIn K mainGlobals "fixed_of" = some (some (.ref f_fixed_of)))
    (l_fixed_of : K.lookup f_fixed_of = some ⟨oc_fixed_of, od_fixed_of, .func (PySem.W.fnOf "fixed_of" "fixed_of" (defArgs sfixed_of) (defBody sfixed_of) (defScope sfixed_of) .none kV_fixed_of dc_fixed_of pm_fixed_of an_fixed_of cd_fixed_of ct_fixed_of), sl_fixed_of⟩)
    (c_fixed_of : PySem.W.codeIn K cd_fixed_of "fixed_of" = true)
    (k_fixed_of : PySem.W.keepIn K (.ref f_fixed_of) = true)
    (a0_latch_of : PySem.W.nsIn K mainGlobals "latch_of" = some (some (.ref f_latch_of)))
    (l_latch_of : K.lookup f_latch_of = some ⟨oc_latch_of, od_latch_of, .func (PySem.W.fnOf "latch_of" "latch_of" (defArgs slatch_of) (defBody slatch_of) (defScope slatch_of) .none kV_latch_of dc_latch_of pm_latch_of an_latch_of cd_latch_of ct_latch_of), sl_latch_of⟩)
    (c_latch_of : PySem.W.codeIn K cd_latch_of "latch_of" = true)
    (k_latch_of : PySem.W.keepIn K (.ref f_latch_of) = true)
    (a0_meter_of : PySem.W.nsIn K mainGlobals "meter_of" = some (some (.ref f_meter_of)))
    (l_meter_of : K.lookup f_meter_of = some ⟨oc_meter_of, od_meter_of, .func (PySem.W.fnOf "meter_of" "meter_of" (defArgs smeter_of) (defBody smeter_of) (defScope smeter_of) .none kV_meter_of dc_meter_of pm_meter_of an_meter_of cd_meter_of ct_meter_of), sl_meter_of⟩)
    (c_meter_of : PySem.W.codeIn K cd_meter_of "meter_of" = true)
    (k_meter_of : PySem.W.keepIn K (.ref f_meter_of) = true)
    (a0_filled_store : PySem.W.nsIn K mainGlobals "filled_store" = some (some (.ref f_filled_store)))
    (l_filled_store : K.lookup f_filled_store = some ⟨oc_filled_store, od_filled_store, .func (PySem.W.fnOf "filled_store" "filled_store" (defArgs sfilled_store) (defBody sfilled_store) (defScope sfilled_store) .none kV_filled_store dc_filled_store pm_filled_store an_filled_store cd_filled_store ct_filled_store), sl_filled_store⟩)
    (c_filled_store : PySem.W.codeIn K cd_filled_store "filled_store" = true)
    (k_filled_store : PySem.W.keepIn K (.ref f_filled_store) = true)
    (a0_filled_pipe : PySem.W.nsIn K mainGlobals "filled_pipe" = some (some (.ref f_filled_pipe)))
    (l_filled_pipe : K.lookup f_filled_pipe = some ⟨oc_filled_pipe, od_filled_pipe, .func (PySem.W.fnOf "filled_pipe" "filled_pipe" (defArgs sfilled_pipe) (defBody sfilled_pipe) (defScope sfilled_pipe) .none kV_filled_pipe dc_filled_pipe pm_filled_pipe an_filled_pipe cd_filled_pipe ct_filled_pipe), sl_filled_pipe⟩)
    (c_filled_pipe : PySem.W.codeIn K cd_filled_pipe "filled_pipe" = true)
    (k_filled_pipe : PySem.W.keepIn K (.ref f_filled_pipe) = true)
    (g_K : PySem.W.nsIn K mainGlobals "KINDS" = some (some (.ref a_K)))
    (l_K : K.lookup a_K = some ⟨.type "dict", none, .dict #[⟨h0_K, .str "store" t0_K, .ref f_filled_store⟩, ⟨h1_K, .str "fixed" t1_K, .ref f_fixed_of⟩, ⟨h2_K, .str "latch" t2_K, .ref f_latch_of⟩, ⟨h3_K, .str "meter" t3_K, .ref f_meter_of⟩, ⟨h4_K, .str "pipe" t4_K, .ref f_filled_pipe⟩] ep_K, #[]⟩)
    (s_K : (a_K == sysModules) = false)
    (e0_K : hashStr w "store" = h0_K)
    (e1_K : hashStr w "fixed" = h1_K)
    (e2_K : hashStr w "latch" = h2_K)
    (e3_K : hashStr w "meter" = h3_K)
    (e4_K : hashStr w "pipe" = h4_K)
    (a0_read_chip : PySem.W.nsIn K mainGlobals "read_chip" = some (some (.ref f_read_chip)))
    (l_read_chip : K.lookup f_read_chip = some ⟨oc_read_chip, od_read_chip, .func (PySem.W.fnOf "read_chip" "read_chip" (defArgs sread_chip) (defBody sread_chip) (defScope sread_chip) .none kV_read_chip dc_read_chip pm_read_chip an_read_chip cd_read_chip ct_read_chip), sl_read_chip⟩)
    (c_read_chip : PySem.W.codeIn K cd_read_chip "read_chip" = true)
    (k_read_chip : PySem.W.keepIn K (.ref f_read_chip) = true)
    (a0__law_size : PySem.W.nsIn K mainGlobals "_law_size" = some (some (.ref f__law_size)))
    (l__law_size : K.lookup f__law_size = some ⟨oc__law_size, od__law_size, .func (PySem.W.fnOf "_law_size" "_law_size" (defArgs s_law_size) (defBody s_law_size) (defScope s_law_size) .none kV__law_size dc__law_size pm__law_size an__law_size cd__law_size ct__law_size), sl__law_size⟩)
    (c__law_size : PySem.W.codeIn K cd__law_size "_law_size" = true)
    (k__law_size : PySem.W.keepIn K (.ref f__law_size) = true)
    (nf01_ : PySem.W.notFirst K C_Store (.ref C_Fixed) = true)
    (nf02_ : PySem.W.notFirst K C_Store (.ref C_Latch) = true)
    (nf03_ : PySem.W.notFirst K C_Store (.ref C_Meter) = true)
    (nf04_ : PySem.W.notFirst K C_Store (.ref C_Pipe) = true)
    (nf10_ : PySem.W.notFirst K C_Fixed (.ref C_Store) = true)
    (nf12_ : PySem.W.notFirst K C_Fixed (.ref C_Latch) = true)
    (nf13_ : PySem.W.notFirst K C_Fixed (.ref C_Meter) = true)
    (nf14_ : PySem.W.notFirst K C_Fixed (.ref C_Pipe) = true)
    (nf20_ : PySem.W.notFirst K C_Latch (.ref C_Store) = true)
    (nf21_ : PySem.W.notFirst K C_Latch (.ref C_Fixed) = true)
    (nf23_ : PySem.W.notFirst K C_Latch (.ref C_Meter) = true)
    (nf24_ : PySem.W.notFirst K C_Latch (.ref C_Pipe) = true)
    (nf30_ : PySem.W.notFirst K C_Meter (.ref C_Store) = true)
    (nf31_ : PySem.W.notFirst K C_Meter (.ref C_Fixed) = true)
    (nf32_ : PySem.W.notFirst K C_Meter (.ref C_Latch) = true)
    (nf34_ : PySem.W.notFirst K C_Meter (.ref C_Pipe) = true)
    (nf40_ : PySem.W.notFirst K C_Pipe (.ref C_Store) = true)
    (nf41_ : PySem.W.notFirst K C_Pipe (.ref C_Fixed) = true)
    (nf42_ : PySem.W.notFirst K C_Pipe (.ref C_Latch) = true)
    (nf43_ : PySem.W.notFirst K C_Pipe (.ref C_Meter) = true)
    (a0__law_agree : PySem.W.nsIn K mainGlobals "_law_agree" = some (some (.ref f__law_agree)))
    (l__law_agree : K.lookup f__law_agree = some ⟨oc__law_agree, od__law_agree, .func (PySem.W.fnOf "_law_agree" "_law_agree" (defArgs s_law_agree) (defBody s_law_agree) (defScope s_law_agree) .none kV__law_agree dc__law_agree pm__law_agree an__law_agree cd__law_agree ct__law_agree), sl__law_agree⟩)
    (c__law_agree : PySem.W.codeIn K cd__law_agree "_law_agree" = true)
    (k__law_agree : PySem.W.keepIn K (.ref f__law_agree) = true)
    (a0__law_pair : PySem.W.nsIn K mainGlobals "_law_pair" = some (some (.ref f__law_pair)))
    (l__law_pair : K.lookup f__law_pair = some ⟨oc__law_pair, od__law_pair, .func (PySem.W.fnOf "_law_pair" "_law_pair" (defArgs s_law_pair) (defBody s_law_pair) (defScope s_law_pair) .none kV__law_pair dc__law_pair pm__law_pair an__law_pair cd__law_pair ct__law_pair), sl__law_pair⟩)
    (c__law_pair : PySem.W.codeIn K cd__law_pair "_law_pair" = true)
    (k__law_pair : PySem.W.keepIn K (.ref f__law_pair) = true)
    (a0__law_done : PySem.W.nsIn K mainGlobals "_law_done" = some (some (.ref f__law_done)))
    (l__law_done : K.lookup f__law_done = some ⟨oc__law_done, od__law_done, .func (PySem.W.fnOf "_law_done" "_law_done" (defArgs s_law_done) (defBody s_law_done) (defScope s_law_done) .none kV__law_done dc__law_done pm__law_done an__law_done cd__law_done ct__law_done), sl__law_done⟩)
    (c__law_done : PySem.W.codeIn K cd__law_done "_law_done" = true)
    (k__law_done : PySem.W.keepIn K (.ref f__law_done) = true)
    (a0_law : PySem.W.nsIn K mainGlobals "law" = some (some (.ref f_law)))
    (l_law : K.lookup f_law = some ⟨oc_law, od_law, .func (PySem.W.fnOf "law" "law" (defArgs slaw) (defBody slaw) (defScope slaw) .none kV_law dc_law pm_law an_law cd_law ct_law), sl_law⟩)
    (c_law : PySem.W.codeIn K cd_law "law" = true)
    (k_law : PySem.W.keepIn K (.ref f_law) = true)
    (z_LAST_WORD : PySem.W.nsIn K mainGlobals "LAST_WORD" = some (some (.int 255 tk_LAST_WORD)))
    (z_MOST_CELLS : PySem.W.nsIn K mainGlobals "MOST_CELLS" = some (some (.int 4096 tk_MOST_CELLS)))
    (z_MOST_ROOM : PySem.W.nsIn K mainGlobals "MOST_ROOM" = some (some (.int 255 tk_MOST_ROOM)))
    (z_SIXTEEN : PySem.W.nsIn K mainGlobals "SIXTEEN" = some (some (.str "0123456789abcdef" tk_SIXTEEN)))
    (z_len : PySem.W.nsIn K mainGlobals "len" = some none)
    (z_sum : PySem.W.nsIn K mainGlobals "sum" = some none)
    (z_all : PySem.W.nsIn K mainGlobals "all" = some none)
    (z_max : PySem.W.nsIn K mainGlobals "max" = some none)
    (z_min : PySem.W.nsIn K mainGlobals "min" = some none)
    (z_int : PySem.W.nsIn K mainGlobals "int" = some none)
    (z_bool : PySem.W.nsIn K mainGlobals "bool" = some none)
    (z_isinstance : PySem.W.nsIn K mainGlobals "isinstance" = some none)
    (z_range : PySem.W.nsIn K mainGlobals "range" = some none)
    (z_enumerate : PySem.W.nsIn K mainGlobals "enumerate" = some none)
    (z_zip : PySem.W.nsIn K mainGlobals "zip" = some none)
    (z_str : PySem.W.nsIn K mainGlobals "str" = some none)
    (z_tuple : PySem.W.nsIn K mainGlobals "tuple" = some none)
    (z_list : PySem.W.nsIn K mainGlobals "list" = some none) :
    ∃ fd : FuncData, (∀ (s : Shared) (v : Value), BindsTo s fd ⟨[v], []⟩ [("script", v)]) ∧ ∀ base : Heap, K.In base → base.Ns mainGlobals mg → FnOk l.prog w K mg base CX0 9 fa fd ["script"] (spLaw K) := by
  have T : Blt mg := ⟨PySem.W.mg_none_of X G z_len, PySem.W.mg_none_of X G z_sum, PySem.W.mg_none_of X G z_all, PySem.W.mg_none_of X G z_max, PySem.W.mg_none_of X G z_min, PySem.W.mg_none_of X G z_int, PySem.W.mg_none_of X G z_bool, PySem.W.mg_none_of X G z_isinstance, PySem.W.mg_none_of X G z_range, PySem.W.mg_none_of X G z_enumerate, PySem.W.mg_none_of X G z_zip, PySem.W.mg_none_of X G z_str, PySem.W.mg_none_of X G z_tuple, PySem.W.mg_none_of X G z_list⟩
  have N : Nums mg := ⟨⟨_, PySem.W.mg_of X G z_LAST_WORD⟩, ⟨_, PySem.W.mg_of X G z_MOST_CELLS⟩, ⟨_, PySem.W.mg_of X G z_MOST_ROOM⟩, ⟨_, PySem.W.mg_of X G z_SIXTEEN⟩⟩
  have F_is_number := fun_mk (st := sis_number) l_is_number c_is_number k_is_number
  have b_is_number := F_is_number.binds (ps := ["thing", "last"]) fun _ _ _ _ _ _ us hl => (by apply ln2 us hl; intro _ _; exact rfl)
  have F_is_word := fun_mk (st := sis_word) l_is_word c_is_word k_is_word
  have b_is_word := F_is_word.binds (ps := ["thing"]) fun _ _ _ _ _ _ us hl => (by apply ln1 us hl; intro _; exact rfl)
  have F_check_word := fun_mk (st := scheck_word) l_check_word c_check_word k_check_word
  have b_check_word := F_check_word.binds (ps := ["word"]) fun _ _ _ _ _ _ us hl => (by apply ln1 us hl; intro _; exact rfl)
  have F_cm_Chip___init__ := fun_mk (st := sChip___init__) l_cm_Chip___init__ c_cm_Chip___init__ k_cm_Chip___init__
  have F_by_figures := fun_mk (st := sby_figures) l_by_figures c_by_figures k_by_figures
  have b_by_figures := F_by_figures.binds (ps := ["number", "many"]) fun _ _ _ _ _ _ us hl => (by apply ln2 us hl; intro _ _; exact rfl)
  have F_two_figures := fun_mk (st := stwo_figures) l_two_figures c_two_figures k_two_figures
  have b_two_figures := F_two_figures.binds (ps := ["word"]) fun _ _ _ _ _ _ us hl => (by apply ln1 us hl; intro _; exact rfl)
  have cl_Store : ClsOk K C_Store := ⟨⟨pg_Store, hd_Store, po_Store, sa_Store⟩, nhead_Store, nheld_Store, nroom_Store⟩
  have F_m_Store___len__ := fun_mk (st := sChip___len__) l_m_Store___len__ c_m_Store___len__ k_m_Store___len__
  have F_m_Store_check_cell := fun_mk (st := sChip_check_cell) l_m_Store_check_cell c_m_Store_check_cell k_m_Store_check_cell
  have F_m_Store_check_write := fun_mk (st := sChip_check_write) l_m_Store_check_write c_m_Store_check_write k_m_Store_check_write
  have F_m_Store_look := fun_mk (st := sChip_look) l_m_Store_look c_m_Store_look k_m_Store_look
  have F_m_Store_state := fun_mk (st := sChip_state) l_m_Store_state c_m_Store_state k_m_Store_state
  have F_m_Store_read := fun_mk (st := sChip_read) l_m_Store_read c_m_Store_read k_m_Store_read
  have F_m_Store_write := fun_mk (st := sChip_write) l_m_Store_write c_m_Store_write k_m_Store_write
  have F_m_Store___str__ := fun_mk (st := sChip___str__) l_m_Store___str__ c_m_Store___str__ k_m_Store___str__
  have cl_Fixed : ClsOk K C_Fixed := ⟨⟨pg_Fixed, hd_Fixed, po_Fixed, sa_Fixed⟩, nhead_Fixed, nheld_Fixed, nroom_Fixed⟩
  have F_m_Fixed___len__ := fun_mk (st := sChip___len__) l_m_Fixed___len__ c_m_Fixed___len__ k_m_Fixed___len__
  have F_m_Fixed_check_cell := fun_mk (st := sChip_check_cell) l_m_Fixed_check_cell c_m_Fixed_check_cell k_m_Fixed_check_cell
  have F_m_Fixed_check_write := fun_mk (st := sChip_check_write) l_m_Fixed_check_write c_m_Fixed_check_write k_m_Fixed_check_write
  have F_m_Fixed_look := fun_mk (st := sChip_look) l_m_Fixed_look c_m_Fixed_look k_m_Fixed_look
  have F_m_Fixed_state := fun_mk (st := sChip_state) l_m_Fixed_state c_m_Fixed_state k_m_Fixed_state
  have F_m_Fixed_read := fun_mk (st := sChip_read) l_m_Fixed_read c_m_Fixed_read k_m_Fixed_read
  have F_m_Fixed_write := fun_mk (st := sFixed_write) l_m_Fixed_write c_m_Fixed_write k_m_Fixed_write
  have F_m_Fixed___str__ := fun_mk (st := sChip___str__) l_m_Fixed___str__ c_m_Fixed___str__ k_m_Fixed___str__
  have cl_Latch : ClsOk K C_Latch := ⟨⟨pg_Latch, hd_Latch, po_Latch, sa_Latch⟩, nhead_Latch, nheld_Latch, nroom_Latch⟩
  have F_m_Latch___len__ := fun_mk (st := sChip___len__) l_m_Latch___len__ c_m_Latch___len__ k_m_Latch___len__
  have F_m_Latch_check_cell := fun_mk (st := sChip_check_cell) l_m_Latch_check_cell c_m_Latch_check_cell k_m_Latch_check_cell
  have F_m_Latch_check_write := fun_mk (st := sChip_check_write) l_m_Latch_check_write c_m_Latch_check_write k_m_Latch_check_write
  have F_m_Latch_look := fun_mk (st := sChip_look) l_m_Latch_look c_m_Latch_look k_m_Latch_look
  have F_m_Latch_state := fun_mk (st := sChip_state) l_m_Latch_state c_m_Latch_state k_m_Latch_state
  have F_m_Latch_read := fun_mk (st := sChip_read) l_m_Latch_read c_m_Latch_read k_m_Latch_read
  have F_m_Latch_write := fun_mk (st := sChip_write) l_m_Latch_write c_m_Latch_write k_m_Latch_write
  have F_m_Latch___str__ := fun_mk (st := sChip___str__) l_m_Latch___str__ c_m_Latch___str__ k_m_Latch___str__
  have cl_Meter : ClsOk K C_Meter := ⟨⟨pg_Meter, hd_Meter, po_Meter, sa_Meter⟩, nhead_Meter, nheld_Meter, nroom_Meter⟩
  have F_m_Meter___len__ := fun_mk (st := sChip___len__) l_m_Meter___len__ c_m_Meter___len__ k_m_Meter___len__
  have F_m_Meter_check_cell := fun_mk (st := sChip_check_cell) l_m_Meter_check_cell c_m_Meter_check_cell k_m_Meter_check_cell
  have F_m_Meter_check_write := fun_mk (st := sChip_check_write) l_m_Meter_check_write c_m_Meter_check_write k_m_Meter_check_write
  have F_m_Meter_look := fun_mk (st := sChip_look) l_m_Meter_look c_m_Meter_look k_m_Meter_look
  have F_m_Meter_state := fun_mk (st := sChip_state) l_m_Meter_state c_m_Meter_state k_m_Meter_state
  have F_m_Meter_read := fun_mk (st := sMeter_read) l_m_Meter_read c_m_Meter_read k_m_Meter_read
  have F_m_Meter_write := fun_mk (st := sChip_write) l_m_Meter_write c_m_Meter_write k_m_Meter_write
  have F_m_Meter___str__ := fun_mk (st := sChip___str__) l_m_Meter___str__ c_m_Meter___str__ k_m_Meter___str__
  have cl_Pipe : ClsOk K C_Pipe := ⟨⟨pg_Pipe, hd_Pipe, po_Pipe, sa_Pipe⟩, nhead_Pipe, nheld_Pipe, nroom_Pipe⟩
  have F_m_Pipe___len__ := fun_mk (st := sPipe___len__) l_m_Pipe___len__ c_m_Pipe___len__ k_m_Pipe___len__
  have F_m_Pipe_check_cell := fun_mk (st := sChip_check_cell) l_m_Pipe_check_cell c_m_Pipe_check_cell k_m_Pipe_check_cell
  have F_m_Pipe_check_write := fun_mk (st := sChip_check_write) l_m_Pipe_check_write c_m_Pipe_check_write k_m_Pipe_check_write
  have F_m_Pipe_look := fun_mk (st := sPipe_look) l_m_Pipe_look c_m_Pipe_look k_m_Pipe_look
  have F_m_Pipe_state := fun_mk (st := sChip_state) l_m_Pipe_state c_m_Pipe_state k_m_Pipe_state
  have F_m_Pipe_read := fun_mk (st := sPipe_read) l_m_Pipe_read c_m_Pipe_read k_m_Pipe_read
  have F_m_Pipe_write := fun_mk (st := sPipe_write) l_m_Pipe_write c_m_Pipe_write k_m_Pipe_write
  have F_m_Pipe___str__ := fun_mk (st := sChip___str__) l_m_Pipe___str__ c_m_Pipe___str__ k_m_Pipe___str__
  have F_m_Store___eq__ := fun_mk (st := sChip___eq__) l_m_Store___eq__ c_m_Store___eq__ k_m_Store___eq__
  have F_m_Fixed___eq__ := fun_mk (st := sChip___eq__) l_m_Fixed___eq__ c_m_Fixed___eq__ k_m_Fixed___eq__
  have F_m_Latch___eq__ := fun_mk (st := sChip___eq__) l_m_Latch___eq__ c_m_Latch___eq__ k_m_Latch___eq__
  have F_m_Meter___eq__ := fun_mk (st := sChip___eq__) l_m_Meter___eq__ c_m_Meter___eq__ k_m_Meter___eq__
  have F_m_Pipe___eq__ := fun_mk (st := sChip___eq__) l_m_Pipe___eq__ c_m_Pipe___eq__ k_m_Pipe___eq__
  have F_i_Store := funD_mk (st := sStore___init__) l_i_Store c_i_Store k_i_Store
  have F_i_Fixed := fun_mk (st := sFixed___init__) l_i_Fixed c_i_Fixed k_i_Fixed
  have F_i_Latch := funD_mk (st := sLatch___init__) l_i_Latch c_i_Latch k_i_Latch
  have F_i_Meter := funD_mk (st := sMeter___init__) l_i_Meter c_i_Meter k_i_Meter
  have F_i_Pipe := funD_mk (st := sPipe___init__) l_i_Pipe c_i_Pipe k_i_Pipe
  have F__law_cell_at := fun_mk (st := s_law_cell_at) l__law_cell_at c__law_cell_at k__law_cell_at
  have b__law_cell_at := F__law_cell_at.binds (ps := ["script", "k"]) fun _ _ _ _ _ _ us hl => (by apply ln2 us hl; intro _ _; exact rfl)
  have F__law_bag := fun_mk (st := s_law_bag) l__law_bag c__law_bag k__law_bag
  have b__law_bag := F__law_bag.binds (ps := ["seed", "place"]) fun _ _ _ _ _ _ us hl => (by apply ln2 us hl; intro _ _; exact rfl)
  have F__law_draw := fun_mk (st := s_law_draw) l__law_draw c__law_draw k__law_draw
  have b__law_draw := F__law_draw.binds (ps := ["bag", "many"]) fun _ _ _ _ _ _ us hl => (by apply ln2 us hl; intro _ _; exact rfl)
  have F__law_alike := fun_mk (st := s_law_alike) l__law_alike c__law_alike k__law_alike
  have b__law_alike := F__law_alike.binds (ps := ["found", "due"]) fun _ _ _ _ _ _ us hl => (by apply ln2 us hl; intro _ _; exact rfl)
  have F__law_word := fun_mk (st := s_law_word) l__law_word c__law_word k__law_word
  have b__law_word := F__law_word.binds (ps := ["bag"]) fun _ _ _ _ _ _ us hl => (by apply ln1 us hl; intro _; exact rfl)
  have F_only_word := fun_mk (st := sonly_word) l_only_word c_only_word k_only_word
  have b_only_word := F_only_word.binds (ps := ["held"]) fun _ _ _ _ _ _ us hl => (by apply ln1 us hl; intro _; exact rfl)
  have F_are_figures := fun_mk (st := sare_figures) l_are_figures c_are_figures k_are_figures
  have b_are_figures := F_are_figures.binds (ps := ["text", "figures"]) fun _ _ _ _ _ _ us hl => (by apply ln2 us hl; intro _ _; exact rfl)
  have F_sixteen_of := fun_mk (st := ssixteen_of) l_sixteen_of c_sixteen_of k_sixteen_of
  have b_sixteen_of := F_sixteen_of.binds (ps := ["text", "fewest", "most"]) fun _ _ _ _ _ _ us hl => (by apply ln3 us hl; intro _ _ _; exact rfl)
  have F_read_sixteen := fun_mk (st := sread_sixteen) l_read_sixteen c_read_sixteen k_read_sixteen
  have b_read_sixteen := F_read_sixteen.binds (ps := ["text", "many"]) fun _ _ _ _ _ _ us hl => (by apply ln2 us hl; intro _ _; exact rfl)
  have F_read_word := fun_mk (st := sread_word) l_read_word c_read_word k_read_word
  have b_read_word := F_read_word.binds (ps := ["text"]) fun _ _ _ _ _ _ us hl => (by apply ln1 us hl; intro _; exact rfl)
  have F_fixed_of := fun_mk (st := sfixed_of) l_fixed_of c_fixed_of k_fixed_of
  have b_fixed_of := F_fixed_of.binds (ps := ["held"]) fun _ _ _ _ _ _ us hl => (by apply ln1 us hl; intro _; exact rfl)
  have F_latch_of := fun_mk (st := slatch_of) l_latch_of c_latch_of k_latch_of
  have b_latch_of := F_latch_of.binds (ps := ["held"]) fun _ _ _ _ _ _ us hl => (by apply ln1 us hl; intro _; exact rfl)
  have F_meter_of := fun_mk (st := smeter_of) l_meter_of c_meter_of k_meter_of
  have b_meter_of := F_meter_of.binds (ps := ["held"]) fun _ _ _ _ _ _ us hl => (by apply ln1 us hl; intro _; exact rfl)
  have F_filled_store := fun_mk (st := sfilled_store) l_filled_store c_filled_store k_filled_store
  have b_filled_store := F_filled_store.binds (ps := ["held"]) fun _ _ _ _ _ _ us hl => (by apply ln1 us hl; intro _; exact rfl)
  have F_filled_pipe := fun_mk (st := sfilled_pipe) l_filled_pipe c_filled_pipe k_filled_pipe
  have b_filled_pipe := F_filled_pipe.binds (ps := ["held"]) fun _ _ _ _ _ _ us hl => (by apply ln1 us hl; intro _; exact rfl)
  have F_read_chip := fun_mk (st := sread_chip) l_read_chip c_read_chip k_read_chip
  have b_read_chip := F_read_chip.binds (ps := ["text"]) fun _ _ _ _ _ _ us hl => (by apply ln1 us hl; intro _; exact rfl)
  have F__law_size := fun_mk (st := s_law_size) l__law_size c__law_size k__law_size
  have b__law_size := F__law_size.binds (ps := ["model"]) fun _ _ _ _ _ _ us hl => (by apply ln1 us hl; intro _; exact rfl)
  have F__law_agree := fun_mk (st := s_law_agree) l__law_agree c__law_agree k__law_agree
  have b__law_agree := F__law_agree.binds (ps := ["place", "one", "other"]) fun _ _ _ _ _ _ us hl => (by apply ln3 us hl; intro _ _ _; exact rfl)
  have F__law_pair := fun_mk (st := s_law_pair) l__law_pair c__law_pair k__law_pair
  have b__law_pair := F__law_pair.binds (ps := ["bag"]) fun _ _ _ _ _ _ us hl => (by apply ln1 us hl; intro _; exact rfl)
  have F__law_done := fun_mk (st := s_law_done) l__law_done c__law_done k__law_done
  have b__law_done := F__law_done.binds (ps := ["bag", "some"]) fun _ _ _ _ _ _ us hl => (by apply ln2 us hl; intro _ _; exact rfl)
  have F_law := fun_mk (st := slaw) l_law c_law k_law
  have b_law := F_law.binds (ps := ["script"]) fun _ _ _ _ _ _ us hl => (by apply ln1 us hl; intro _; exact rfl)
  have e := hfa.symm.trans (PySem.W.mg_of X G a0_law)
  cases e
  refine ⟨PySem.W.fnOf "law" "law" (defArgs slaw) (defBody slaw) (defScope slaw) .none kV_law dc_law pm_law an_law cd_law ct_law, fun s v => .of_eq rfl, fun base _ _ => ?_⟩
  have G_is_number : FnOk l.prog w K mg base CX0 1 f_is_number _ ["thing", "last"] spIsNum := okis_number F_is_number T
  have C_is_number : Cal l.prog w K mg base 1 "is_number" ["thing", "last"] spIsNum := ⟨f_is_number, _, G_is_number, PySem.W.mg_of X G a0_is_number, k_is_number, b_is_number⟩
  have G_is_word : FnOk l.prog w K mg base CX0 2 f_is_word _ ["thing"] spIsWord := okis_word F_is_word T N C_is_number
  have C_is_word : Cal l.prog w K mg base 2 "is_word" ["thing"] spIsWord := ⟨f_is_word, _, G_is_word, PySem.W.mg_of X G a0_is_word, k_is_word, b_is_word⟩
  have G_check_word : FnOk l.prog w K mg base CX0 3 f_check_word _ ["word"] spChkWord := okcheck_word F_check_word T C_is_word
  have C_check_word : Cal l.prog w K mg base 3 "check_word" ["word"] spChkWord := ⟨f_check_word, _, G_check_word, PySem.W.mg_of X G a0_check_word, k_check_word, b_check_word⟩
  have CL_Chip___init__ : Clm l.prog w K mg base 1 "Chip" "__init__" (spInit K) := ⟨⟨C_Chip, f_cm_Chip___init__, _, _, _, PySem.W.mg_of X G a_Chip, sg_cm_Chip___init__, rd_cm_Chip___init__, fc_cm_Chip___init__, k_cm_Chip___init__, okChip___init__ F_cm_Chip___init__ T, F_cm_Chip___init__.binds (ps := ["self", "head", "held"]) fun _ _ _ _ _ _ us hl => (by apply ln3 us hl; intro _ _ _; exact rfl)⟩⟩
  have G_by_figures : FnOk l.prog w K mg base CX0 1 f_by_figures _ ["number", "many"] spByFig := okby_figures F_by_figures T N
  have C_by_figures : Cal l.prog w K mg base 1 "by_figures" ["number", "many"] spByFig := ⟨f_by_figures, _, G_by_figures, PySem.W.mg_of X G a0_by_figures, k_by_figures, b_by_figures⟩
  have G_two_figures : FnOk l.prog w K mg base CX0 2 f_two_figures _ ["word"] sp2fig := oktwo_figures F_two_figures T C_by_figures
  have C_two_figures : Cal l.prog w K mg base 2 "two_figures" ["word"] sp2fig := ⟨f_two_figures, _, G_two_figures, PySem.W.mg_of X G a0_two_figures, k_two_figures, b_two_figures⟩
  have G_m_Store___len__ : FnOk l.prog w K mg base CX0 1 f_m_Store___len__ _ ["self"] (spLen C_Store List.length) := okChip___len__ (C := C_Store) F_m_Store___len__ T cl_Store
  have M_Store___len__ : Mth l.prog w K mg base 1 C_Store "__len__" [] (fun vs _ => vs) (spLen C_Store List.length) := ⟨cl_Store.cl, f_m_Store___len__, _, _, _, ⟨at_m_Store___len__, fn_m_Store___len__, k_m_Store___len__⟩, G_m_Store___len__, (KBinds.pos (F_m_Store___len__.binds (ps := ["self"]) fun _ _ _ _ _ _ us hl => (by apply ln1 us hl; intro _; exact rfl)))⟩
  have G_m_Store_check_cell : FnOk l.prog w K mg base CX0 3 f_m_Store_check_cell _ ["self", "cell"] (spChkC C_Store List.length) := okChip_check_cell (C := C_Store) F_m_Store_check_cell T C_is_number M_Store___len__
  have M_Store_check_cell : Mth l.prog w K mg base 3 C_Store "check_cell" [] (fun vs _ => vs) (spChkC C_Store List.length) := ⟨cl_Store.cl, f_m_Store_check_cell, _, _, _, ⟨at_m_Store_check_cell, fn_m_Store_check_cell, k_m_Store_check_cell⟩, G_m_Store_check_cell, (KBinds.pos (F_m_Store_check_cell.binds (ps := ["self", "cell"]) fun _ _ _ _ _ _ us hl => (by apply ln2 us hl; intro _ _; exact rfl)))⟩
  have G_m_Store_check_write : FnOk l.prog w K mg base CX0 4 f_m_Store_check_write _ ["self", "cell", "word"] (spChkW C_Store List.length) := okChip_check_write (C := C_Store) F_m_Store_check_write T C_check_word M_Store_check_cell
  have M_Store_check_write : Mth l.prog w K mg base 4 C_Store "check_write" [] (fun vs _ => vs) (spChkW C_Store List.length) := ⟨cl_Store.cl, f_m_Store_check_write, _, _, _, ⟨at_m_Store_check_write, fn_m_Store_check_write, k_m_Store_check_write⟩, G_m_Store_check_write, (KBinds.pos (F_m_Store_check_write.binds (ps := ["self", "cell", "word"]) fun _ _ _ _ _ _ us hl => (by apply ln3 us hl; intro _ _ _; exact rfl)))⟩
  have G_m_Store_look : FnOk l.prog w K mg base CX0 4 f_m_Store_look _ ["self", "cell"] (spLook C_Store) := okChip_look (C := C_Store) F_m_Store_look T cl_Store M_Store_check_cell
  have M_Store_look : Mth l.prog w K mg base 4 C_Store "look" [] (fun vs _ => vs) (spLook C_Store) := ⟨cl_Store.cl, f_m_Store_look, _, _, _, ⟨at_m_Store_look, fn_m_Store_look, k_m_Store_look⟩, G_m_Store_look, (KBinds.pos (F_m_Store_look.binds (ps := ["self", "cell"]) fun _ _ _ _ _ _ us hl => (by apply ln2 us hl; intro _ _; exact rfl)))⟩
  have G_m_Store_state : FnOk l.prog w K mg base CX0 1 f_m_Store_state _ ["self"] (spState C_Store) := okChip_state (C := C_Store) F_m_Store_state T cl_Store
  have M_Store_state : Mth l.prog w K mg base 1 C_Store "state" [] (fun vs _ => vs) (spState C_Store) := ⟨cl_Store.cl, f_m_Store_state, _, _, _, ⟨at_m_Store_state, fn_m_Store_state, k_m_Store_state⟩, G_m_Store_state, (KBinds.pos (F_m_Store_state.binds (ps := ["self"]) fun _ _ _ _ _ _ us hl => (by apply ln1 us hl; intro _; exact rfl)))⟩
  have G_m_Store_read : FnOk l.prog w K mg base CX0 5 f_m_Store_read _ ["self", "cell"] (spLook C_Store) := okChip_read (C := C_Store) F_m_Store_read T M_Store_look
  have M_Store_read : Mth l.prog w K mg base 5 C_Store "read" [] (fun vs _ => vs) (spLook C_Store) := ⟨cl_Store.cl, f_m_Store_read, _, _, _, ⟨at_m_Store_read, fn_m_Store_read, k_m_Store_read⟩, G_m_Store_read, (KBinds.pos (F_m_Store_read.binds (ps := ["self", "cell"]) fun _ _ _ _ _ _ us hl => (by apply ln2 us hl; intro _ _; exact rfl)))⟩
  have G_m_Store_write : FnOk l.prog w K mg base CX0 5 f_m_Store_write _ ["self", "cell", "word"] (spWrite C_Store) := okChip_write (C := C_Store) F_m_Store_write T cl_Store M_Store_check_write
  have M_Store_write : Mth l.prog w K mg base 5 C_Store "write" [] (fun vs _ => vs) (spWrite C_Store) := ⟨cl_Store.cl, f_m_Store_write, _, _, _, ⟨at_m_Store_write, fn_m_Store_write, k_m_Store_write⟩, G_m_Store_write, (KBinds.pos (F_m_Store_write.binds (ps := ["self", "cell", "word"]) fun _ _ _ _ _ _ us hl => (by apply ln3 us hl; intro _ _ _; exact rfl)))⟩
  have G_m_Store___str__ : FnOk l.prog w K mg base CX0 3 f_m_Store___str__ _ ["self"] (spStr C_Store) := okChip___str__ (C := C_Store) F_m_Store___str__ T cl_Store C_two_figures
  have M_Store___str__ : Mth l.prog w K mg base 3 C_Store "__str__" [] (fun vs _ => vs) (spStr C_Store) := ⟨cl_Store.cl, f_m_Store___str__, _, _, _, ⟨at_m_Store___str__, fn_m_Store___str__, k_m_Store___str__⟩, G_m_Store___str__, (KBinds.pos (F_m_Store___str__.binds (ps := ["self"]) fun _ _ _ _ _ _ us hl => (by apply ln1 us hl; intro _; exact rfl)))⟩
  have G_m_Fixed___len__ : FnOk l.prog w K mg base CX0 1 f_m_Fixed___len__ _ ["self"] (spLen C_Fixed List.length) := okChip___len__ (C := C_Fixed) F_m_Fixed___len__ T cl_Fixed
  have M_Fixed___len__ : Mth l.prog w K mg base 1 C_Fixed "__len__" [] (fun vs _ => vs) (spLen C_Fixed List.length) := ⟨cl_Fixed.cl, f_m_Fixed___len__, _, _, _, ⟨at_m_Fixed___len__, fn_m_Fixed___len__, k_m_Fixed___len__⟩, G_m_Fixed___len__, (KBinds.pos (F_m_Fixed___len__.binds (ps := ["self"]) fun _ _ _ _ _ _ us hl => (by apply ln1 us hl; intro _; exact rfl)))⟩
  have G_m_Fixed_check_cell : FnOk l.prog w K mg base CX0 3 f_m_Fixed_check_cell _ ["self", "cell"] (spChkC C_Fixed List.length) := okChip_check_cell (C := C_Fixed) F_m_Fixed_check_cell T C_is_number M_Fixed___len__
  have M_Fixed_check_cell : Mth l.prog w K mg base 3 C_Fixed "check_cell" [] (fun vs _ => vs) (spChkC C_Fixed List.length) := ⟨cl_Fixed.cl, f_m_Fixed_check_cell, _, _, _, ⟨at_m_Fixed_check_cell, fn_m_Fixed_check_cell, k_m_Fixed_check_cell⟩, G_m_Fixed_check_cell, (KBinds.pos (F_m_Fixed_check_cell.binds (ps := ["self", "cell"]) fun _ _ _ _ _ _ us hl => (by apply ln2 us hl; intro _ _; exact rfl)))⟩
  have G_m_Fixed_check_write : FnOk l.prog w K mg base CX0 4 f_m_Fixed_check_write _ ["self", "cell", "word"] (spChkW C_Fixed List.length) := okChip_check_write (C := C_Fixed) F_m_Fixed_check_write T C_check_word M_Fixed_check_cell
  have M_Fixed_check_write : Mth l.prog w K mg base 4 C_Fixed "check_write" [] (fun vs _ => vs) (spChkW C_Fixed List.length) := ⟨cl_Fixed.cl, f_m_Fixed_check_write, _, _, _, ⟨at_m_Fixed_check_write, fn_m_Fixed_check_write, k_m_Fixed_check_write⟩, G_m_Fixed_check_write, (KBinds.pos (F_m_Fixed_check_write.binds (ps := ["self", "cell", "word"]) fun _ _ _ _ _ _ us hl => (by apply ln3 us hl; intro _ _ _; exact rfl)))⟩
  have G_m_Fixed_look : FnOk l.prog w K mg base CX0 4 f_m_Fixed_look _ ["self", "cell"] (spLook C_Fixed) := okChip_look (C := C_Fixed) F_m_Fixed_look T cl_Fixed M_Fixed_check_cell
  have M_Fixed_look : Mth l.prog w K mg base 4 C_Fixed "look" [] (fun vs _ => vs) (spLook C_Fixed) := ⟨cl_Fixed.cl, f_m_Fixed_look, _, _, _, ⟨at_m_Fixed_look, fn_m_Fixed_look, k_m_Fixed_look⟩, G_m_Fixed_look, (KBinds.pos (F_m_Fixed_look.binds (ps := ["self", "cell"]) fun _ _ _ _ _ _ us hl => (by apply ln2 us hl; intro _ _; exact rfl)))⟩
  have G_m_Fixed_state : FnOk l.prog w K mg base CX0 1 f_m_Fixed_state _ ["self"] (spState C_Fixed) := okChip_state (C := C_Fixed) F_m_Fixed_state T cl_Fixed
  have M_Fixed_state : Mth l.prog w K mg base 1 C_Fixed "state" [] (fun vs _ => vs) (spState C_Fixed) := ⟨cl_Fixed.cl, f_m_Fixed_state, _, _, _, ⟨at_m_Fixed_state, fn_m_Fixed_state, k_m_Fixed_state⟩, G_m_Fixed_state, (KBinds.pos (F_m_Fixed_state.binds (ps := ["self"]) fun _ _ _ _ _ _ us hl => (by apply ln1 us hl; intro _; exact rfl)))⟩
  have G_m_Fixed_read : FnOk l.prog w K mg base CX0 5 f_m_Fixed_read _ ["self", "cell"] (spLook C_Fixed) := okChip_read (C := C_Fixed) F_m_Fixed_read T M_Fixed_look
  have M_Fixed_read : Mth l.prog w K mg base 5 C_Fixed "read" [] (fun vs _ => vs) (spLook C_Fixed) := ⟨cl_Fixed.cl, f_m_Fixed_read, _, _, _, ⟨at_m_Fixed_read, fn_m_Fixed_read, k_m_Fixed_read⟩, G_m_Fixed_read, (KBinds.pos (F_m_Fixed_read.binds (ps := ["self", "cell"]) fun _ _ _ _ _ _ us hl => (by apply ln2 us hl; intro _ _; exact rfl)))⟩
  have G_m_Fixed_write : FnOk l.prog w K mg base CX0 5 f_m_Fixed_write _ ["self", "cell", "word"] (spFixW C_Fixed) := okFixed_write (C := C_Fixed) F_m_Fixed_write T M_Fixed_check_write
  have M_Fixed_write : Mth l.prog w K mg base 5 C_Fixed "write" [] (fun vs _ => vs) (spFixW C_Fixed) := ⟨cl_Fixed.cl, f_m_Fixed_write, _, _, _, ⟨at_m_Fixed_write, fn_m_Fixed_write, k_m_Fixed_write⟩, G_m_Fixed_write, (KBinds.pos (F_m_Fixed_write.binds (ps := ["self", "cell", "word"]) fun _ _ _ _ _ _ us hl => (by apply ln3 us hl; intro _ _ _; exact rfl)))⟩
  have G_m_Fixed___str__ : FnOk l.prog w K mg base CX0 3 f_m_Fixed___str__ _ ["self"] (spStr C_Fixed) := okChip___str__ (C := C_Fixed) F_m_Fixed___str__ T cl_Fixed C_two_figures
  have M_Fixed___str__ : Mth l.prog w K mg base 3 C_Fixed "__str__" [] (fun vs _ => vs) (spStr C_Fixed) := ⟨cl_Fixed.cl, f_m_Fixed___str__, _, _, _, ⟨at_m_Fixed___str__, fn_m_Fixed___str__, k_m_Fixed___str__⟩, G_m_Fixed___str__, (KBinds.pos (F_m_Fixed___str__.binds (ps := ["self"]) fun _ _ _ _ _ _ us hl => (by apply ln1 us hl; intro _; exact rfl)))⟩
  have G_m_Latch___len__ : FnOk l.prog w K mg base CX0 1 f_m_Latch___len__ _ ["self"] (spLen C_Latch List.length) := okChip___len__ (C := C_Latch) F_m_Latch___len__ T cl_Latch
  have M_Latch___len__ : Mth l.prog w K mg base 1 C_Latch "__len__" [] (fun vs _ => vs) (spLen C_Latch List.length) := ⟨cl_Latch.cl, f_m_Latch___len__, _, _, _, ⟨at_m_Latch___len__, fn_m_Latch___len__, k_m_Latch___len__⟩, G_m_Latch___len__, (KBinds.pos (F_m_Latch___len__.binds (ps := ["self"]) fun _ _ _ _ _ _ us hl => (by apply ln1 us hl; intro _; exact rfl)))⟩
  have G_m_Latch_check_cell : FnOk l.prog w K mg base CX0 3 f_m_Latch_check_cell _ ["self", "cell"] (spChkC C_Latch List.length) := okChip_check_cell (C := C_Latch) F_m_Latch_check_cell T C_is_number M_Latch___len__
  have M_Latch_check_cell : Mth l.prog w K mg base 3 C_Latch "check_cell" [] (fun vs _ => vs) (spChkC C_Latch List.length) := ⟨cl_Latch.cl, f_m_Latch_check_cell, _, _, _, ⟨at_m_Latch_check_cell, fn_m_Latch_check_cell, k_m_Latch_check_cell⟩, G_m_Latch_check_cell, (KBinds.pos (F_m_Latch_check_cell.binds (ps := ["self", "cell"]) fun _ _ _ _ _ _ us hl => (by apply ln2 us hl; intro _ _; exact rfl)))⟩
  have G_m_Latch_check_write : FnOk l.prog w K mg base CX0 4 f_m_Latch_check_write _ ["self", "cell", "word"] (spChkW C_Latch List.length) := okChip_check_write (C := C_Latch) F_m_Latch_check_write T C_check_word M_Latch_check_cell
  have M_Latch_check_write : Mth l.prog w K mg base 4 C_Latch "check_write" [] (fun vs _ => vs) (spChkW C_Latch List.length) := ⟨cl_Latch.cl, f_m_Latch_check_write, _, _, _, ⟨at_m_Latch_check_write, fn_m_Latch_check_write, k_m_Latch_check_write⟩, G_m_Latch_check_write, (KBinds.pos (F_m_Latch_check_write.binds (ps := ["self", "cell", "word"]) fun _ _ _ _ _ _ us hl => (by apply ln3 us hl; intro _ _ _; exact rfl)))⟩
  have G_m_Latch_look : FnOk l.prog w K mg base CX0 4 f_m_Latch_look _ ["self", "cell"] (spLook C_Latch) := okChip_look (C := C_Latch) F_m_Latch_look T cl_Latch M_Latch_check_cell
  have M_Latch_look : Mth l.prog w K mg base 4 C_Latch "look" [] (fun vs _ => vs) (spLook C_Latch) := ⟨cl_Latch.cl, f_m_Latch_look, _, _, _, ⟨at_m_Latch_look, fn_m_Latch_look, k_m_Latch_look⟩, G_m_Latch_look, (KBinds.pos (F_m_Latch_look.binds (ps := ["self", "cell"]) fun _ _ _ _ _ _ us hl => (by apply ln2 us hl; intro _ _; exact rfl)))⟩
  have G_m_Latch_state : FnOk l.prog w K mg base CX0 1 f_m_Latch_state _ ["self"] (spState C_Latch) := okChip_state (C := C_Latch) F_m_Latch_state T cl_Latch
  have M_Latch_state : Mth l.prog w K mg base 1 C_Latch "state" [] (fun vs _ => vs) (spState C_Latch) := ⟨cl_Latch.cl, f_m_Latch_state, _, _, _, ⟨at_m_Latch_state, fn_m_Latch_state, k_m_Latch_state⟩, G_m_Latch_state, (KBinds.pos (F_m_Latch_state.binds (ps := ["self"]) fun _ _ _ _ _ _ us hl => (by apply ln1 us hl; intro _; exact rfl)))⟩
  have G_m_Latch_read : FnOk l.prog w K mg base CX0 5 f_m_Latch_read _ ["self", "cell"] (spLook C_Latch) := okChip_read (C := C_Latch) F_m_Latch_read T M_Latch_look
  have M_Latch_read : Mth l.prog w K mg base 5 C_Latch "read" [] (fun vs _ => vs) (spLook C_Latch) := ⟨cl_Latch.cl, f_m_Latch_read, _, _, _, ⟨at_m_Latch_read, fn_m_Latch_read, k_m_Latch_read⟩, G_m_Latch_read, (KBinds.pos (F_m_Latch_read.binds (ps := ["self", "cell"]) fun _ _ _ _ _ _ us hl => (by apply ln2 us hl; intro _ _; exact rfl)))⟩
  have G_m_Latch_write : FnOk l.prog w K mg base CX0 5 f_m_Latch_write _ ["self", "cell", "word"] (spWrite C_Latch) := okChip_write (C := C_Latch) F_m_Latch_write T cl_Latch M_Latch_check_write
  have M_Latch_write : Mth l.prog w K mg base 5 C_Latch "write" [] (fun vs _ => vs) (spWrite C_Latch) := ⟨cl_Latch.cl, f_m_Latch_write, _, _, _, ⟨at_m_Latch_write, fn_m_Latch_write, k_m_Latch_write⟩, G_m_Latch_write, (KBinds.pos (F_m_Latch_write.binds (ps := ["self", "cell", "word"]) fun _ _ _ _ _ _ us hl => (by apply ln3 us hl; intro _ _ _; exact rfl)))⟩
  have G_m_Latch___str__ : FnOk l.prog w K mg base CX0 3 f_m_Latch___str__ _ ["self"] (spStr C_Latch) := okChip___str__ (C := C_Latch) F_m_Latch___str__ T cl_Latch C_two_figures
  have M_Latch___str__ : Mth l.prog w K mg base 3 C_Latch "__str__" [] (fun vs _ => vs) (spStr C_Latch) := ⟨cl_Latch.cl, f_m_Latch___str__, _, _, _, ⟨at_m_Latch___str__, fn_m_Latch___str__, k_m_Latch___str__⟩, G_m_Latch___str__, (KBinds.pos (F_m_Latch___str__.binds (ps := ["self"]) fun _ _ _ _ _ _ us hl => (by apply ln1 us hl; intro _; exact rfl)))⟩
  have G_m_Meter___len__ : FnOk l.prog w K mg base CX0 1 f_m_Meter___len__ _ ["self"] (spLen C_Meter List.length) := okChip___len__ (C := C_Meter) F_m_Meter___len__ T cl_Meter
  have M_Meter___len__ : Mth l.prog w K mg base 1 C_Meter "__len__" [] (fun vs _ => vs) (spLen C_Meter List.length) := ⟨cl_Meter.cl, f_m_Meter___len__, _, _, _, ⟨at_m_Meter___len__, fn_m_Meter___len__, k_m_Meter___len__⟩, G_m_Meter___len__, (KBinds.pos (F_m_Meter___len__.binds (ps := ["self"]) fun _ _ _ _ _ _ us hl => (by apply ln1 us hl; intro _; exact rfl)))⟩
  have G_m_Meter_check_cell : FnOk l.prog w K mg base CX0 3 f_m_Meter_check_cell _ ["self", "cell"] (spChkC C_Meter List.length) := okChip_check_cell (C := C_Meter) F_m_Meter_check_cell T C_is_number M_Meter___len__
  have M_Meter_check_cell : Mth l.prog w K mg base 3 C_Meter "check_cell" [] (fun vs _ => vs) (spChkC C_Meter List.length) := ⟨cl_Meter.cl, f_m_Meter_check_cell, _, _, _, ⟨at_m_Meter_check_cell, fn_m_Meter_check_cell, k_m_Meter_check_cell⟩, G_m_Meter_check_cell, (KBinds.pos (F_m_Meter_check_cell.binds (ps := ["self", "cell"]) fun _ _ _ _ _ _ us hl => (by apply ln2 us hl; intro _ _; exact rfl)))⟩
  have G_m_Meter_check_write : FnOk l.prog w K mg base CX0 4 f_m_Meter_check_write _ ["self", "cell", "word"] (spChkW C_Meter List.length) := okChip_check_write (C := C_Meter) F_m_Meter_check_write T C_check_word M_Meter_check_cell
  have M_Meter_check_write : Mth l.prog w K mg base 4 C_Meter "check_write" [] (fun vs _ => vs) (spChkW C_Meter List.length) := ⟨cl_Meter.cl, f_m_Meter_check_write, _, _, _, ⟨at_m_Meter_check_write, fn_m_Meter_check_write, k_m_Meter_check_write⟩, G_m_Meter_check_write, (KBinds.pos (F_m_Meter_check_write.binds (ps := ["self", "cell", "word"]) fun _ _ _ _ _ _ us hl => (by apply ln3 us hl; intro _ _ _; exact rfl)))⟩
  have G_m_Meter_look : FnOk l.prog w K mg base CX0 4 f_m_Meter_look _ ["self", "cell"] (spLook C_Meter) := okChip_look (C := C_Meter) F_m_Meter_look T cl_Meter M_Meter_check_cell
  have M_Meter_look : Mth l.prog w K mg base 4 C_Meter "look" [] (fun vs _ => vs) (spLook C_Meter) := ⟨cl_Meter.cl, f_m_Meter_look, _, _, _, ⟨at_m_Meter_look, fn_m_Meter_look, k_m_Meter_look⟩, G_m_Meter_look, (KBinds.pos (F_m_Meter_look.binds (ps := ["self", "cell"]) fun _ _ _ _ _ _ us hl => (by apply ln2 us hl; intro _ _; exact rfl)))⟩
  have G_m_Meter_state : FnOk l.prog w K mg base CX0 1 f_m_Meter_state _ ["self"] (spState C_Meter) := okChip_state (C := C_Meter) F_m_Meter_state T cl_Meter
  have M_Meter_state : Mth l.prog w K mg base 1 C_Meter "state" [] (fun vs _ => vs) (spState C_Meter) := ⟨cl_Meter.cl, f_m_Meter_state, _, _, _, ⟨at_m_Meter_state, fn_m_Meter_state, k_m_Meter_state⟩, G_m_Meter_state, (KBinds.pos (F_m_Meter_state.binds (ps := ["self"]) fun _ _ _ _ _ _ us hl => (by apply ln1 us hl; intro _; exact rfl)))⟩
  have G_m_Meter_read : FnOk l.prog w K mg base CX0 5 f_m_Meter_read _ ["self", "cell"] (spMetR C_Meter) := okMeter_read (C := C_Meter) F_m_Meter_read T N cl_Meter M_Meter_look
  have M_Meter_read : Mth l.prog w K mg base 5 C_Meter "read" [] (fun vs _ => vs) (spMetR C_Meter) := ⟨cl_Meter.cl, f_m_Meter_read, _, _, _, ⟨at_m_Meter_read, fn_m_Meter_read, k_m_Meter_read⟩, G_m_Meter_read, (KBinds.pos (F_m_Meter_read.binds (ps := ["self", "cell"]) fun _ _ _ _ _ _ us hl => (by apply ln2 us hl; intro _ _; exact rfl)))⟩
  have G_m_Meter_write : FnOk l.prog w K mg base CX0 5 f_m_Meter_write _ ["self", "cell", "word"] (spWrite C_Meter) := okChip_write (C := C_Meter) F_m_Meter_write T cl_Meter M_Meter_check_write
  have M_Meter_write : Mth l.prog w K mg base 5 C_Meter "write" [] (fun vs _ => vs) (spWrite C_Meter) := ⟨cl_Meter.cl, f_m_Meter_write, _, _, _, ⟨at_m_Meter_write, fn_m_Meter_write, k_m_Meter_write⟩, G_m_Meter_write, (KBinds.pos (F_m_Meter_write.binds (ps := ["self", "cell", "word"]) fun _ _ _ _ _ _ us hl => (by apply ln3 us hl; intro _ _ _; exact rfl)))⟩
  have G_m_Meter___str__ : FnOk l.prog w K mg base CX0 3 f_m_Meter___str__ _ ["self"] (spStr C_Meter) := okChip___str__ (C := C_Meter) F_m_Meter___str__ T cl_Meter C_two_figures
  have M_Meter___str__ : Mth l.prog w K mg base 3 C_Meter "__str__" [] (fun vs _ => vs) (spStr C_Meter) := ⟨cl_Meter.cl, f_m_Meter___str__, _, _, _, ⟨at_m_Meter___str__, fn_m_Meter___str__, k_m_Meter___str__⟩, G_m_Meter___str__, (KBinds.pos (F_m_Meter___str__.binds (ps := ["self"]) fun _ _ _ _ _ _ us hl => (by apply ln1 us hl; intro _; exact rfl)))⟩
  have G_m_Pipe___len__ : FnOk l.prog w K mg base CX0 1 f_m_Pipe___len__ _ ["self"] (spLen C_Pipe two) := okPipe___len__ (C := C_Pipe) F_m_Pipe___len__ T cl_Pipe
  have M_Pipe___len__ : Mth l.prog w K mg base 1 C_Pipe "__len__" [] (fun vs _ => vs) (spLen C_Pipe two) := ⟨cl_Pipe.cl, f_m_Pipe___len__, _, _, _, ⟨at_m_Pipe___len__, fn_m_Pipe___len__, k_m_Pipe___len__⟩, G_m_Pipe___len__, (KBinds.pos (F_m_Pipe___len__.binds (ps := ["self"]) fun _ _ _ _ _ _ us hl => (by apply ln1 us hl; intro _; exact rfl)))⟩
  have G_m_Pipe_check_cell : FnOk l.prog w K mg base CX0 3 f_m_Pipe_check_cell _ ["self", "cell"] (spChkC C_Pipe two) := okChip_check_cell (C := C_Pipe) F_m_Pipe_check_cell T C_is_number M_Pipe___len__
  have M_Pipe_check_cell : Mth l.prog w K mg base 3 C_Pipe "check_cell" [] (fun vs _ => vs) (spChkC C_Pipe two) := ⟨cl_Pipe.cl, f_m_Pipe_check_cell, _, _, _, ⟨at_m_Pipe_check_cell, fn_m_Pipe_check_cell, k_m_Pipe_check_cell⟩, G_m_Pipe_check_cell, (KBinds.pos (F_m_Pipe_check_cell.binds (ps := ["self", "cell"]) fun _ _ _ _ _ _ us hl => (by apply ln2 us hl; intro _ _; exact rfl)))⟩
  have G_m_Pipe_check_write : FnOk l.prog w K mg base CX0 4 f_m_Pipe_check_write _ ["self", "cell", "word"] (spChkW C_Pipe two) := okChip_check_write (C := C_Pipe) F_m_Pipe_check_write T C_check_word M_Pipe_check_cell
  have M_Pipe_check_write : Mth l.prog w K mg base 4 C_Pipe "check_write" [] (fun vs _ => vs) (spChkW C_Pipe two) := ⟨cl_Pipe.cl, f_m_Pipe_check_write, _, _, _, ⟨at_m_Pipe_check_write, fn_m_Pipe_check_write, k_m_Pipe_check_write⟩, G_m_Pipe_check_write, (KBinds.pos (F_m_Pipe_check_write.binds (ps := ["self", "cell", "word"]) fun _ _ _ _ _ _ us hl => (by apply ln3 us hl; intro _ _ _; exact rfl)))⟩
  have G_m_Pipe_look : FnOk l.prog w K mg base CX0 4 f_m_Pipe_look _ ["self", "cell"] (spPLook C_Pipe) := okPipe_look (C := C_Pipe) F_m_Pipe_look T cl_Pipe M_Pipe_check_cell
  have M_Pipe_look : Mth l.prog w K mg base 4 C_Pipe "look" [] (fun vs _ => vs) (spPLook C_Pipe) := ⟨cl_Pipe.cl, f_m_Pipe_look, _, _, _, ⟨at_m_Pipe_look, fn_m_Pipe_look, k_m_Pipe_look⟩, G_m_Pipe_look, (KBinds.pos (F_m_Pipe_look.binds (ps := ["self", "cell"]) fun _ _ _ _ _ _ us hl => (by apply ln2 us hl; intro _ _; exact rfl)))⟩
  have G_m_Pipe_state : FnOk l.prog w K mg base CX0 1 f_m_Pipe_state _ ["self"] (spState C_Pipe) := okChip_state (C := C_Pipe) F_m_Pipe_state T cl_Pipe
  have M_Pipe_state : Mth l.prog w K mg base 1 C_Pipe "state" [] (fun vs _ => vs) (spState C_Pipe) := ⟨cl_Pipe.cl, f_m_Pipe_state, _, _, _, ⟨at_m_Pipe_state, fn_m_Pipe_state, k_m_Pipe_state⟩, G_m_Pipe_state, (KBinds.pos (F_m_Pipe_state.binds (ps := ["self"]) fun _ _ _ _ _ _ us hl => (by apply ln1 us hl; intro _; exact rfl)))⟩
  have G_m_Pipe_read : FnOk l.prog w K mg base CX0 5 f_m_Pipe_read _ ["self", "cell"] (spPRead C_Pipe) := okPipe_read (C := C_Pipe) F_m_Pipe_read T cl_Pipe M_Pipe_look
  have M_Pipe_read : Mth l.prog w K mg base 5 C_Pipe "read" [] (fun vs _ => vs) (spPRead C_Pipe) := ⟨cl_Pipe.cl, f_m_Pipe_read, _, _, _, ⟨at_m_Pipe_read, fn_m_Pipe_read, k_m_Pipe_read⟩, G_m_Pipe_read, (KBinds.pos (F_m_Pipe_read.binds (ps := ["self", "cell"]) fun _ _ _ _ _ _ us hl => (by apply ln2 us hl; intro _ _; exact rfl)))⟩
  have G_m_Pipe_write : FnOk l.prog w K mg base CX0 5 f_m_Pipe_write _ ["self", "cell", "word"] (spPWrite C_Pipe) := okPipe_write (C := C_Pipe) F_m_Pipe_write T cl_Pipe M_Pipe_check_write
  have M_Pipe_write : Mth l.prog w K mg base 5 C_Pipe "write" [] (fun vs _ => vs) (spPWrite C_Pipe) := ⟨cl_Pipe.cl, f_m_Pipe_write, _, _, _, ⟨at_m_Pipe_write, fn_m_Pipe_write, k_m_Pipe_write⟩, G_m_Pipe_write, (KBinds.pos (F_m_Pipe_write.binds (ps := ["self", "cell", "word"]) fun _ _ _ _ _ _ us hl => (by apply ln3 us hl; intro _ _ _; exact rfl)))⟩
  have G_m_Pipe___str__ : FnOk l.prog w K mg base CX0 3 f_m_Pipe___str__ _ ["self"] (spStr C_Pipe) := okChip___str__ (C := C_Pipe) F_m_Pipe___str__ T cl_Pipe C_two_figures
  have M_Pipe___str__ : Mth l.prog w K mg base 3 C_Pipe "__str__" [] (fun vs _ => vs) (spStr C_Pipe) := ⟨cl_Pipe.cl, f_m_Pipe___str__, _, _, _, ⟨at_m_Pipe___str__, fn_m_Pipe___str__, k_m_Pipe___str__⟩, G_m_Pipe___str__, (KBinds.pos (F_m_Pipe___str__.binds (ps := ["self"]) fun _ _ _ _ _ _ us hl => (by apply ln1 us hl; intro _; exact rfl)))⟩
  have CK5 : ∀ kd, kd < 5 → ClsOk K ((csOf C_Store C_Fixed C_Latch C_Meter C_Pipe) kd) := fun kd h => by
    rcases (show kd = 0 ∨ kd = 1 ∨ kd = 2 ∨ kd = 3 ∨ kd = 4 by omega) with rfl | rfl | rfl | rfl | rfl
    · exact cl_Store
    · exact cl_Fixed
    · exact cl_Latch
    · exact cl_Meter
    · exact cl_Pipe
  have TY5 : ∀ kd, kd < 5 → TyC K ((csOf C_Store C_Fixed C_Latch C_Meter C_Pipe) kd) C_Chip := fun kd h => by
    rcases (show kd = 0 ∨ kd = 1 ∨ kd = 2 ∨ kd = 3 ∨ kd = 4 by omega) with rfl | rfl | rfl | rfl | rfl
    · exact ⟨t1_Store, t2_Store, t3_Store, t4_Store, kit_isIn t5_Store⟩
    · exact ⟨t1_Fixed, t2_Fixed, t3_Fixed, t4_Fixed, kit_isIn t5_Fixed⟩
    · exact ⟨t1_Latch, t2_Latch, t3_Latch, t4_Latch, kit_isIn t5_Latch⟩
    · exact ⟨t1_Meter, t2_Meter, t3_Meter, t4_Meter, kit_isIn t5_Meter⟩
    · exact ⟨t1_Pipe, t2_Pipe, t3_Pipe, t4_Pipe, kit_isIn t5_Pipe⟩
  have NE5 : ∀ kd, kd < 5 → NeOk K ((csOf C_Store C_Fixed C_Latch C_Meter C_Pipe) kd) := fun kd h => by
    rcases (show kd = 0 ∨ kd = 1 ∨ kd = 2 ∨ kd = 3 ∨ kd = 4 by omega) with rfl | rfl | rfl | rfl | rfl
    · exact ⟨n1_Store, n2_Store⟩
    · exact ⟨n1_Fixed, n2_Fixed⟩
    · exact ⟨n1_Latch, n2_Latch⟩
    · exact ⟨n1_Meter, n2_Meter⟩
    · exact ⟨n1_Pipe, n2_Pipe⟩
  have G_m_Store___eq__ : FnOk l.prog w K mg base CX0 1 f_m_Store___eq__ _ ["self", "other"] (spCEq (csOf C_Store C_Fixed C_Latch C_Meter C_Pipe) 0) := okChip___eq__ (cs := (csOf C_Store C_Fixed C_Latch C_Meter C_Pipe)) (kd := 0) F_m_Store___eq__ T (by decide) CK5 TY5 (PySem.W.mg_of X G a_Chip)
  have M_Store___eq__ : Mth l.prog w K mg base 1 C_Store "__eq__" [] (fun vs _ => vs) (spCEq (csOf C_Store C_Fixed C_Latch C_Meter C_Pipe) 0) := ⟨cl_Store.cl, f_m_Store___eq__, _, _, _, ⟨at_m_Store___eq__, fn_m_Store___eq__, k_m_Store___eq__⟩, G_m_Store___eq__, (KBinds.pos (F_m_Store___eq__.binds (ps := ["self", "other"]) fun _ _ _ _ _ _ us hl => (by apply ln2 us hl; intro _ _; exact rfl)))⟩
  have G_m_Fixed___eq__ : FnOk l.prog w K mg base CX0 1 f_m_Fixed___eq__ _ ["self", "other"] (spCEq (csOf C_Store C_Fixed C_Latch C_Meter C_Pipe) 1) := okChip___eq__ (cs := (csOf C_Store C_Fixed C_Latch C_Meter C_Pipe)) (kd := 1) F_m_Fixed___eq__ T (by decide) CK5 TY5 (PySem.W.mg_of X G a_Chip)
  have M_Fixed___eq__ : Mth l.prog w K mg base 1 C_Fixed "__eq__" [] (fun vs _ => vs) (spCEq (csOf C_Store C_Fixed C_Latch C_Meter C_Pipe) 1) := ⟨cl_Fixed.cl, f_m_Fixed___eq__, _, _, _, ⟨at_m_Fixed___eq__, fn_m_Fixed___eq__, k_m_Fixed___eq__⟩, G_m_Fixed___eq__, (KBinds.pos (F_m_Fixed___eq__.binds (ps := ["self", "other"]) fun _ _ _ _ _ _ us hl => (by apply ln2 us hl; intro _ _; exact rfl)))⟩
  have G_m_Latch___eq__ : FnOk l.prog w K mg base CX0 1 f_m_Latch___eq__ _ ["self", "other"] (spCEq (csOf C_Store C_Fixed C_Latch C_Meter C_Pipe) 2) := okChip___eq__ (cs := (csOf C_Store C_Fixed C_Latch C_Meter C_Pipe)) (kd := 2) F_m_Latch___eq__ T (by decide) CK5 TY5 (PySem.W.mg_of X G a_Chip)
  have M_Latch___eq__ : Mth l.prog w K mg base 1 C_Latch "__eq__" [] (fun vs _ => vs) (spCEq (csOf C_Store C_Fixed C_Latch C_Meter C_Pipe) 2) := ⟨cl_Latch.cl, f_m_Latch___eq__, _, _, _, ⟨at_m_Latch___eq__, fn_m_Latch___eq__, k_m_Latch___eq__⟩, G_m_Latch___eq__, (KBinds.pos (F_m_Latch___eq__.binds (ps := ["self", "other"]) fun _ _ _ _ _ _ us hl => (by apply ln2 us hl; intro _ _; exact rfl)))⟩
  have G_m_Meter___eq__ : FnOk l.prog w K mg base CX0 1 f_m_Meter___eq__ _ ["self", "other"] (spCEq (csOf C_Store C_Fixed C_Latch C_Meter C_Pipe) 3) := okChip___eq__ (cs := (csOf C_Store C_Fixed C_Latch C_Meter C_Pipe)) (kd := 3) F_m_Meter___eq__ T (by decide) CK5 TY5 (PySem.W.mg_of X G a_Chip)
  have M_Meter___eq__ : Mth l.prog w K mg base 1 C_Meter "__eq__" [] (fun vs _ => vs) (spCEq (csOf C_Store C_Fixed C_Latch C_Meter C_Pipe) 3) := ⟨cl_Meter.cl, f_m_Meter___eq__, _, _, _, ⟨at_m_Meter___eq__, fn_m_Meter___eq__, k_m_Meter___eq__⟩, G_m_Meter___eq__, (KBinds.pos (F_m_Meter___eq__.binds (ps := ["self", "other"]) fun _ _ _ _ _ _ us hl => (by apply ln2 us hl; intro _ _; exact rfl)))⟩
  have G_m_Pipe___eq__ : FnOk l.prog w K mg base CX0 1 f_m_Pipe___eq__ _ ["self", "other"] (spCEq (csOf C_Store C_Fixed C_Latch C_Meter C_Pipe) 4) := okChip___eq__ (cs := (csOf C_Store C_Fixed C_Latch C_Meter C_Pipe)) (kd := 4) F_m_Pipe___eq__ T (by decide) CK5 TY5 (PySem.W.mg_of X G a_Chip)
  have M_Pipe___eq__ : Mth l.prog w K mg base 1 C_Pipe "__eq__" [] (fun vs _ => vs) (spCEq (csOf C_Store C_Fixed C_Latch C_Meter C_Pipe) 4) := ⟨cl_Pipe.cl, f_m_Pipe___eq__, _, _, _, ⟨at_m_Pipe___eq__, fn_m_Pipe___eq__, k_m_Pipe___eq__⟩, G_m_Pipe___eq__, (KBinds.pos (F_m_Pipe___eq__.binds (ps := ["self", "other"]) fun _ _ _ _ _ _ us hl => (by apply ln2 us hl; intro _ _; exact rfl)))⟩
  have G_i_Store : FnOk l.prog w K mg base CX0 3 f_i_Store _ ["self", "cells", "word"] (spMkSH C_Store) := okStore___init__ (C := C_Store) F_i_Store T N cl_Store C_is_number C_is_word CL_Chip___init__
  have GMStore_1 : Mak l.prog w K mg base 3 "Store" C_Store [] (dP [.int 0]) (spMkSH C_Store) := ⟨PySem.W.mg_of X G a_Store, f_i_Store, _, _, _, ⟨mk_i_Store, at_i_Store, fn_i_Store, kc_i_Store⟩, G_i_Store, (F_i_Store.kbinds (ps := ["self", "cells", "word"]) (ks := []) (g := dP [.int 0 tt_i_Store]) d_i_Store rfl (fun _ _ _ _ _ _ us ws hl => (by have hl' : us.length = 2 := (by have h := hl; unfold dP at h; rw [List.length_append] at h; have h2 : (["self", "cells", "word"] : List Str).length = 3 := rfl; simp only [List.length_cons, List.length_nil] at h; omega); exact (by apply ln2 us hl'; intro _ _; exact ⟨_, rfl, rfl⟩))) (Vals.dP (show Vals [V.int 0] [Value.int 0 tt_i_Store] from .cons ⟨_, rfl⟩ .nil)))⟩
  have GMStore_2 : Mak l.prog w K mg base 3 "Store" C_Store [] (dP []) (spMkSH C_Store) := ⟨PySem.W.mg_of X G a_Store, f_i_Store, _, _, _, ⟨mk_i_Store, at_i_Store, fn_i_Store, kc_i_Store⟩, G_i_Store, (F_i_Store.kbinds (ps := ["self", "cells", "word"]) (ks := []) (g := dP []) d_i_Store rfl (fun _ _ _ _ _ _ us ws hl => (by have hl' : us.length = 3 := (by have h := hl; unfold dP at h; rw [List.length_append] at h; have h2 : (["self", "cells", "word"] : List Str).length = 3 := rfl; simp only [List.length_cons, List.length_nil] at h; omega); exact (by apply ln3 us hl'; intro _ _ _; exact ⟨_, rfl, rfl⟩))) (Vals.dP (show Vals ([] : List V) ([] : List Value) from .nil)))⟩
  have GMStore_word_cells : Mak l.prog w K mg base 3 "Store" C_Store ["word", "cells"] k2s (spMkSH C_Store) := ⟨PySem.W.mg_of X G a_Store, f_i_Store, _, _, _, ⟨mk_i_Store, at_i_Store, fn_i_Store, kc_i_Store⟩, G_i_Store, (F_i_Store.kbinds (ps := ["self", "cells", "word"]) (ks := ["word", "cells"]) (g := k2s) d_i_Store rfl (fun _ _ _ _ _ _ us ws hl => (match us, ws, hl with | [_], [_, _], _ => ⟨_, rfl, rfl⟩ | [_], [_], h => nomatch h | [], _, h => nomatch h | [_], [], h => nomatch h | [_], _ :: _ :: _ :: _, h => nomatch h | _ :: _ :: _, _, h => nomatch h)) Vals.k2s)⟩
  have G_i_Fixed : FnOk l.prog w K mg base CX0 3 f_i_Fixed _ ["self", "words"] (spMkFH C_Fixed) := okFixed___init__ (C := C_Fixed) F_i_Fixed T N cl_Fixed C_is_word CL_Chip___init__
  have GMFixed_1 : Mak l.prog w K mg base 3 "Fixed" C_Fixed [] (dP []) (spMkFH C_Fixed) := ⟨PySem.W.mg_of X G a_Fixed, f_i_Fixed, _, _, _, ⟨mk_i_Fixed, at_i_Fixed, fn_i_Fixed, kc_i_Fixed⟩, G_i_Fixed, (F_i_Fixed.kbinds (ps := ["self", "words"]) (ks := []) (g := dP []) (fun _ _ _ _ _ _ us ws hl => (by have hl' : us.length = 2 := (by have h := hl; unfold dP at h; rw [List.length_append] at h; have h2 : (["self", "words"] : List Str).length = 2 := rfl; simp only [List.length_cons, List.length_nil] at h; omega); exact (by apply ln2 us hl'; intro _ _; exact rfl))) (Vals.dP (show Vals ([] : List V) ([] : List Value) from .nil)))⟩
  have GMFixed_words : Mak l.prog w K mg base 3 "Fixed" C_Fixed ["words"] k1 (spMkFH C_Fixed) := ⟨PySem.W.mg_of X G a_Fixed, f_i_Fixed, _, _, _, ⟨mk_i_Fixed, at_i_Fixed, fn_i_Fixed, kc_i_Fixed⟩, G_i_Fixed, (F_i_Fixed.kbinds (ps := ["self", "words"]) (ks := ["words"]) (g := k1) (fun _ _ _ _ _ _ us ws hl => (match us, ws, hl with | [_], [_], _ => rfl | [], _, h => nomatch h | [_], [], h => nomatch h | [_], _ :: _ :: _, h => nomatch h | _ :: _ :: _, _, h => nomatch h)) Vals.k1)⟩
  have G_i_Latch : FnOk l.prog w K mg base CX0 3 f_i_Latch _ ["self", "word"] (spMk1H C_Latch "latch") := okLatch___init__ (C := C_Latch) F_i_Latch T cl_Latch C_is_word CL_Chip___init__
  have GMLatch_1 : Mak l.prog w K mg base 3 "Latch" C_Latch [] (dP []) (spMk1H C_Latch "latch") := ⟨PySem.W.mg_of X G a_Latch, f_i_Latch, _, _, _, ⟨mk_i_Latch, at_i_Latch, fn_i_Latch, kc_i_Latch⟩, G_i_Latch, (F_i_Latch.kbinds (ps := ["self", "word"]) (ks := []) (g := dP []) d_i_Latch rfl (fun _ _ _ _ _ _ us ws hl => (by have hl' : us.length = 2 := (by have h := hl; unfold dP at h; rw [List.length_append] at h; have h2 : (["self", "word"] : List Str).length = 2 := rfl; simp only [List.length_cons, List.length_nil] at h; omega); exact (by apply ln2 us hl'; intro _ _; exact ⟨_, rfl, rfl⟩))) (Vals.dP (show Vals ([] : List V) ([] : List Value) from .nil)))⟩
  have GMLatch_word : Mak l.prog w K mg base 3 "Latch" C_Latch ["word"] k1 (spMk1H C_Latch "latch") := ⟨PySem.W.mg_of X G a_Latch, f_i_Latch, _, _, _, ⟨mk_i_Latch, at_i_Latch, fn_i_Latch, kc_i_Latch⟩, G_i_Latch, (F_i_Latch.kbinds (ps := ["self", "word"]) (ks := ["word"]) (g := k1) d_i_Latch rfl (fun _ _ _ _ _ _ us ws hl => (match us, ws, hl with | [_], [_], _ => ⟨_, rfl, rfl⟩ | [], _, h => nomatch h | [_], [], h => nomatch h | [_], _ :: _ :: _, h => nomatch h | _ :: _ :: _, _, h => nomatch h)) Vals.k1)⟩
  have G_i_Meter : FnOk l.prog w K mg base CX0 3 f_i_Meter _ ["self", "word"] (spMk1H C_Meter "meter") := okMeter___init__ (C := C_Meter) F_i_Meter T cl_Meter C_is_word CL_Chip___init__
  have GMMeter_1 : Mak l.prog w K mg base 3 "Meter" C_Meter [] (dP []) (spMk1H C_Meter "meter") := ⟨PySem.W.mg_of X G a_Meter, f_i_Meter, _, _, _, ⟨mk_i_Meter, at_i_Meter, fn_i_Meter, kc_i_Meter⟩, G_i_Meter, (F_i_Meter.kbinds (ps := ["self", "word"]) (ks := []) (g := dP []) d_i_Meter rfl (fun _ _ _ _ _ _ us ws hl => (by have hl' : us.length = 2 := (by have h := hl; unfold dP at h; rw [List.length_append] at h; have h2 : (["self", "word"] : List Str).length = 2 := rfl; simp only [List.length_cons, List.length_nil] at h; omega); exact (by apply ln2 us hl'; intro _ _; exact ⟨_, rfl, rfl⟩))) (Vals.dP (show Vals ([] : List V) ([] : List Value) from .nil)))⟩
  have GMMeter_word : Mak l.prog w K mg base 3 "Meter" C_Meter ["word"] k1 (spMk1H C_Meter "meter") := ⟨PySem.W.mg_of X G a_Meter, f_i_Meter, _, _, _, ⟨mk_i_Meter, at_i_Meter, fn_i_Meter, kc_i_Meter⟩, G_i_Meter, (F_i_Meter.kbinds (ps := ["self", "word"]) (ks := ["word"]) (g := k1) d_i_Meter rfl (fun _ _ _ _ _ _ us ws hl => (match us, ws, hl with | [_], [_], _ => ⟨_, rfl, rfl⟩ | [], _, h => nomatch h | [_], [], h => nomatch h | [_], _ :: _ :: _, h => nomatch h | _ :: _ :: _, _, h => nomatch h)) Vals.k1)⟩
  have G_i_Pipe : FnOk l.prog w K mg base CX0 3 f_i_Pipe _ ["self", "room"] (spMkP C_Pipe) := okPipe___init__ (C := C_Pipe) F_i_Pipe T N cl_Pipe C_is_number C_two_figures CL_Chip___init__
  have GMPipe_1 : Mak l.prog w K mg base 3 "Pipe" C_Pipe [] (dP []) (spMkP C_Pipe) := ⟨PySem.W.mg_of X G a_Pipe, f_i_Pipe, _, _, _, ⟨mk_i_Pipe, at_i_Pipe, fn_i_Pipe, kc_i_Pipe⟩, G_i_Pipe, (F_i_Pipe.kbinds (ps := ["self", "room"]) (ks := []) (g := dP []) d_i_Pipe rfl (fun _ _ _ _ _ _ us ws hl => (by have hl' : us.length = 2 := (by have h := hl; unfold dP at h; rw [List.length_append] at h; have h2 : (["self", "room"] : List Str).length = 2 := rfl; simp only [List.length_cons, List.length_nil] at h; omega); exact (by apply ln2 us hl'; intro _ _; exact ⟨_, rfl, rfl⟩))) (Vals.dP (show Vals ([] : List V) ([] : List Value) from .nil)))⟩
  have GMPipe_room : Mak l.prog w K mg base 3 "Pipe" C_Pipe ["room"] k1 (spMkP C_Pipe) := ⟨PySem.W.mg_of X G a_Pipe, f_i_Pipe, _, _, _, ⟨mk_i_Pipe, at_i_Pipe, fn_i_Pipe, kc_i_Pipe⟩, G_i_Pipe, (F_i_Pipe.kbinds (ps := ["self", "room"]) (ks := ["room"]) (g := k1) d_i_Pipe rfl (fun _ _ _ _ _ _ us ws hl => (match us, ws, hl with | [_], [_], _ => ⟨_, rfl, rfl⟩ | [], _, h => nomatch h | [_], [], h => nomatch h | [_], _ :: _ :: _, h => nomatch h | _ :: _ :: _, _, h => nomatch h)) Vals.k1)⟩
  have G__law_cell_at : FnOk l.prog w K mg base CX0 1 f__law_cell_at _ ["script", "k"] (spCellAt K) := ok_law_cell_at F__law_cell_at T
  have C__law_cell_at : Cal l.prog w K mg base 1 "_law_cell_at" ["script", "k"] (spCellAt K) := ⟨f__law_cell_at, _, G__law_cell_at, PySem.W.mg_of X G a0__law_cell_at, k__law_cell_at, b__law_cell_at⟩
  have G__law_bag : FnOk l.prog w K mg base CX0 1 f__law_bag _ ["seed", "place"] spBag := ok_law_bag F__law_bag T
  have C__law_bag : Cal l.prog w K mg base 1 "_law_bag" ["seed", "place"] spBag := ⟨f__law_bag, _, G__law_bag, PySem.W.mg_of X G a0__law_bag, k__law_bag, b__law_bag⟩
  have G__law_draw : FnOk l.prog w K mg base CX0 1 f__law_draw _ ["bag", "many"] spDraw := ok_law_draw F__law_draw T
  have C__law_draw : Cal l.prog w K mg base 1 "_law_draw" ["bag", "many"] spDraw := ⟨f__law_draw, _, G__law_draw, PySem.W.mg_of X G a0__law_draw, k__law_draw, b__law_draw⟩
  have G_alike_no : Cal l.prog w K mg base 0 "_law_alike" ["found", "due"] (fun _ _ _ _ => False) := ⟨f__law_alike, _, ⟨fun _ _ _ _ h => h.elim, fun _ _ _ _ _ _ _ _ _ _ _ _ _ h => h.elim⟩, PySem.W.mg_of X G a0__law_alike, k__law_alike, b__law_alike⟩
  have C__law_alike0 : Cal l.prog w K mg base 1 "_law_alike" ["found", "due"] (spAlike 0) := ⟨f__law_alike, _, ok_law_alike F__law_alike T G_alike_no (fun k e => by cases e <;> rfl), PySem.W.mg_of X G a0__law_alike, k__law_alike, b__law_alike⟩
  have C__law_alike1 : Cal l.prog w K mg base 2 "_law_alike" ["found", "due"] (spAlike 1) := ⟨f__law_alike, _, ok_law_alike F__law_alike T C__law_alike0 (fun k e => by cases e <;> rfl), PySem.W.mg_of X G a0__law_alike, k__law_alike, b__law_alike⟩
  have C__law_alike2 : Cal l.prog w K mg base 3 "_law_alike" ["found", "due"] (spAlike 2) := ⟨f__law_alike, _, ok_law_alike F__law_alike T C__law_alike1 (fun k e => by cases e <;> rfl), PySem.W.mg_of X G a0__law_alike, k__law_alike, b__law_alike⟩
  have G__law_word : FnOk l.prog w K mg base CX0 2 f__law_word _ ["bag"] spWord := ok_law_word F__law_word T C__law_draw
  have C__law_word : Cal l.prog w K mg base 2 "_law_word" ["bag"] spWord := ⟨f__law_word, _, G__law_word, PySem.W.mg_of X G a0__law_word, k__law_word, b__law_word⟩
  have G_only_word : FnOk l.prog w K mg base CX0 1 f_only_word _ ["held"] spOnlyW := okonly_word F_only_word T
  have C_only_word : Cal l.prog w K mg base 1 "only_word" ["held"] spOnlyW := ⟨f_only_word, _, G_only_word, PySem.W.mg_of X G a0_only_word, k_only_word, b_only_word⟩
  have G_are_figures : FnOk l.prog w K mg base CX0 1 f_are_figures _ ["text", "figures"] spAreFig := okare_figures F_are_figures T
  have C_are_figures : Cal l.prog w K mg base 1 "are_figures" ["text", "figures"] spAreFig := ⟨f_are_figures, _, G_are_figures, PySem.W.mg_of X G a0_are_figures, k_are_figures, b_are_figures⟩
  have G_sixteen_of : FnOk l.prog w K mg base CX0 2 f_sixteen_of _ ["text", "fewest", "most"] spSixOf := oksixteen_of F_sixteen_of T N C_are_figures
  have C_sixteen_of : Cal l.prog w K mg base 2 "sixteen_of" ["text", "fewest", "most"] spSixOf := ⟨f_sixteen_of, _, G_sixteen_of, PySem.W.mg_of X G a0_sixteen_of, k_sixteen_of, b_sixteen_of⟩
  have G_read_sixteen : FnOk l.prog w K mg base CX0 3 f_read_sixteen _ ["text", "many"] spReadSix := okread_sixteen F_read_sixteen T C_sixteen_of
  have C_read_sixteen : Cal l.prog w K mg base 3 "read_sixteen" ["text", "many"] spReadSix := ⟨f_read_sixteen, _, G_read_sixteen, PySem.W.mg_of X G a0_read_sixteen, k_read_sixteen, b_read_sixteen⟩
  have G_read_word : FnOk l.prog w K mg base CX0 4 f_read_word _ ["text"] spReadWord := okread_word F_read_word T C_read_sixteen
  have C_read_word : Cal l.prog w K mg base 4 "read_word" ["text"] spReadWord := ⟨f_read_word, _, G_read_word, PySem.W.mg_of X G a0_read_word, k_read_word, b_read_word⟩
  have G_fixed_of : FnOk l.prog w K mg base CX0 5 f_fixed_of _ ["held"] (spBuild (csOf C_Store C_Fixed C_Latch C_Meter C_Pipe) 1) := okfixed_of (cs := (csOf C_Store C_Fixed C_Latch C_Meter C_Pipe)) F_fixed_of T GMFixed_1
  have C_fixed_of : Cal l.prog w K mg base 5 "fixed_of" ["held"] (spBuild (csOf C_Store C_Fixed C_Latch C_Meter C_Pipe) 1) := ⟨f_fixed_of, _, G_fixed_of, PySem.W.mg_of X G a0_fixed_of, k_fixed_of, b_fixed_of⟩
  have G_latch_of : FnOk l.prog w K mg base CX0 5 f_latch_of _ ["held"] (spBuild (csOf C_Store C_Fixed C_Latch C_Meter C_Pipe) 2) := oklatch_of (cs := (csOf C_Store C_Fixed C_Latch C_Meter C_Pipe)) F_latch_of T C_only_word GMLatch_1
  have C_latch_of : Cal l.prog w K mg base 5 "latch_of" ["held"] (spBuild (csOf C_Store C_Fixed C_Latch C_Meter C_Pipe) 2) := ⟨f_latch_of, _, G_latch_of, PySem.W.mg_of X G a0_latch_of, k_latch_of, b_latch_of⟩
  have G_meter_of : FnOk l.prog w K mg base CX0 5 f_meter_of _ ["held"] (spBuild (csOf C_Store C_Fixed C_Latch C_Meter C_Pipe) 3) := okmeter_of (cs := (csOf C_Store C_Fixed C_Latch C_Meter C_Pipe)) F_meter_of T C_only_word GMMeter_1
  have C_meter_of : Cal l.prog w K mg base 5 "meter_of" ["held"] (spBuild (csOf C_Store C_Fixed C_Latch C_Meter C_Pipe) 3) := ⟨f_meter_of, _, G_meter_of, PySem.W.mg_of X G a0_meter_of, k_meter_of, b_meter_of⟩
  have MS : ∀ kd, kd < 5 → Mth l.prog w K mg base 1 ((csOf C_Store C_Fixed C_Latch C_Meter C_Pipe) kd) "state" [] (fun vs _ => vs) (spState ((csOf C_Store C_Fixed C_Latch C_Meter C_Pipe) kd)) := fun kd h => by
    rcases (show kd = 0 ∨ kd = 1 ∨ kd = 2 ∨ kd = 3 ∨ kd = 4 by omega) with rfl | rfl | rfl | rfl | rfl
    · exact M_Store_state
    · exact M_Fixed_state
    · exact M_Latch_state
    · exact M_Meter_state
    · exact M_Pipe_state
  have ML : ∀ kd, kd < 5 → Mth l.prog w K mg base 1 ((csOf C_Store C_Fixed C_Latch C_Meter C_Pipe) kd) "__len__" [] (fun vs _ => vs) (spLen ((csOf C_Store C_Fixed C_Latch C_Meter C_Pipe) kd) (lenK kd)) := fun kd h => by
    rcases (show kd = 0 ∨ kd = 1 ∨ kd = 2 ∨ kd = 3 ∨ kd = 4 by omega) with rfl | rfl | rfl | rfl | rfl
    · exact M_Store___len__
    · exact M_Fixed___len__
    · exact M_Latch___len__
    · exact M_Meter___len__
    · exact M_Pipe___len__
  have MT : ∀ kd, kd < 5 → Mth l.prog w K mg base 3 ((csOf C_Store C_Fixed C_Latch C_Meter C_Pipe) kd) "__str__" [] (fun vs _ => vs) (spStr ((csOf C_Store C_Fixed C_Latch C_Meter C_Pipe) kd)) := fun kd h => by
    rcases (show kd = 0 ∨ kd = 1 ∨ kd = 2 ∨ kd = 3 ∨ kd = 4 by omega) with rfl | rfl | rfl | rfl | rfl
    · exact M_Store___str__
    · exact M_Fixed___str__
    · exact M_Latch___str__
    · exact M_Meter___str__
    · exact M_Pipe___str__
  have MW : ∀ kd, kd < 5 → Mth l.prog w K mg base 5 ((csOf C_Store C_Fixed C_Latch C_Meter C_Pipe) kd) "write" [] (fun vs _ => vs) (spW25 (csOf C_Store C_Fixed C_Latch C_Meter C_Pipe) kd) := fun kd h => by
    rcases (show kd = 0 ∨ kd = 1 ∨ kd = 2 ∨ kd = 3 ∨ kd = 4 by omega) with rfl | rfl | rfl | rfl | rfl
    · exact Mth_imp M_Store_write (w_plain (cs := (csOf C_Store C_Fixed C_Latch C_Meter C_Pipe)) (.inl rfl))
    · exact Mth_imp M_Fixed_write (w_fixed (cs := (csOf C_Store C_Fixed C_Latch C_Meter C_Pipe)))
    · exact Mth_imp M_Latch_write (w_plain (cs := (csOf C_Store C_Fixed C_Latch C_Meter C_Pipe)) (.inr (.inl rfl)))
    · exact Mth_imp M_Meter_write (w_plain (cs := (csOf C_Store C_Fixed C_Latch C_Meter C_Pipe)) (.inr (.inr rfl)))
    · exact Mth_imp M_Pipe_write (w_pipe (cs := (csOf C_Store C_Fixed C_Latch C_Meter C_Pipe)))
  have MR : ∀ kd, kd < 5 → Mth l.prog w K mg base 5 ((csOf C_Store C_Fixed C_Latch C_Meter C_Pipe) kd) "read" [] (fun vs _ => vs) (spR26 (csOf C_Store C_Fixed C_Latch C_Meter C_Pipe) kd) := fun kd h => by
    rcases (show kd = 0 ∨ kd = 1 ∨ kd = 2 ∨ kd = 3 ∨ kd = 4 by omega) with rfl | rfl | rfl | rfl | rfl
    · exact Mth_imp M_Store_read (r26_plain (cs := (csOf C_Store C_Fixed C_Latch C_Meter C_Pipe)) (.inl rfl))
    · exact Mth_imp M_Fixed_read (r26_plain (cs := (csOf C_Store C_Fixed C_Latch C_Meter C_Pipe)) (.inr (.inl rfl)))
    · exact Mth_imp M_Latch_read (r26_plain (cs := (csOf C_Store C_Fixed C_Latch C_Meter C_Pipe)) (.inr (.inr rfl)))
    · exact Mth_imp M_Meter_read (r26_meter (cs := (csOf C_Store C_Fixed C_Latch C_Meter C_Pipe)))
    · exact Mth_imp M_Pipe_read (r26_pipe (cs := (csOf C_Store C_Fixed C_Latch C_Meter C_Pipe)))
  have MK : ∀ kd, kd < 5 → Mth l.prog w K mg base 5 ((csOf C_Store C_Fixed C_Latch C_Meter C_Pipe) kd) "look" [] (fun vs _ => vs) (spL26 (csOf C_Store C_Fixed C_Latch C_Meter C_Pipe) kd) := fun kd h => by
    rcases (show kd = 0 ∨ kd = 1 ∨ kd = 2 ∨ kd = 3 ∨ kd = 4 by omega) with rfl | rfl | rfl | rfl | rfl
    · exact Mth_imp (M_Store_look.mono (by decide)) (l26_plain (cs := (csOf C_Store C_Fixed C_Latch C_Meter C_Pipe)) (by decide))
    · exact Mth_imp (M_Fixed_look.mono (by decide)) (l26_plain (cs := (csOf C_Store C_Fixed C_Latch C_Meter C_Pipe)) (by decide))
    · exact Mth_imp (M_Latch_look.mono (by decide)) (l26_plain (cs := (csOf C_Store C_Fixed C_Latch C_Meter C_Pipe)) (by decide))
    · exact Mth_imp (M_Meter_look.mono (by decide)) (l26_plain (cs := (csOf C_Store C_Fixed C_Latch C_Meter C_Pipe)) (by decide))
    · exact Mth_imp (M_Pipe_look.mono (by decide)) (l26_pipe (cs := (csOf C_Store C_Fixed C_Latch C_Meter C_Pipe)))
  have ME : ∀ kd, kd < 5 → Mth l.prog w K mg base 1 ((csOf C_Store C_Fixed C_Latch C_Meter C_Pipe) kd) "__eq__" [] (fun vs _ => vs) (spCEq (csOf C_Store C_Fixed C_Latch C_Meter C_Pipe) kd) := fun kd h => by
    rcases (show kd = 0 ∨ kd = 1 ∨ kd = 2 ∨ kd = 3 ∨ kd = 4 by omega) with rfl | rfl | rfl | rfl | rfl
    · exact M_Store___eq__
    · exact M_Fixed___eq__
    · exact M_Latch___eq__
    · exact M_Meter___eq__
    · exact M_Pipe___eq__
  have G_filled_store : FnOk l.prog w K mg base CX0 6 f_filled_store _ ["held"] (spBuild (csOf C_Store C_Fixed C_Latch C_Meter C_Pipe) 0) := okfilled_store (cs := (csOf C_Store C_Fixed C_Latch C_Meter C_Pipe)) F_filled_store T GMStore_1 MW
  have C_filled_store : Cal l.prog w K mg base 6 "filled_store" ["held"] (spBuild (csOf C_Store C_Fixed C_Latch C_Meter C_Pipe) 0) := ⟨f_filled_store, _, G_filled_store, PySem.W.mg_of X G a0_filled_store, k_filled_store, b_filled_store⟩
  have G_filled_pipe : FnOk l.prog w K mg base CX0 6 f_filled_pipe _ ["held"] (spBuild (csOf C_Store C_Fixed C_Latch C_Meter C_Pipe) 4) := okfilled_pipe (cs := (csOf C_Store C_Fixed C_Latch C_Meter C_Pipe)) F_filled_pipe T GMPipe_1 MW
  have C_filled_pipe : Cal l.prog w K mg base 6 "filled_pipe" ["held"] (spBuild (csOf C_Store C_Fixed C_Latch C_Meter C_Pipe) 4) := ⟨f_filled_pipe, _, G_filled_pipe, PySem.W.mg_of X G a0_filled_pipe, k_filled_pipe, b_filled_pipe⟩
  have DK : DicK l.prog w K a_K (KINDSOF (csOf f_filled_store f_fixed_of f_latch_of f_meter_of f_filled_pipe)) := kinds_mk (fb := (csOf f_filled_store f_fixed_of f_latch_of f_meter_of f_filled_pipe)) s_K l_K e0_K e1_K e2_K e3_K e4_K
  have GB : ∀ kd, kd < 5 → ∃ fd', PySem.W.keepIn K (.ref ((csOf f_filled_store f_fixed_of f_latch_of f_meter_of f_filled_pipe) kd)) = true ∧ FnOk l.prog w K mg base CX0 6 ((csOf f_filled_store f_fixed_of f_latch_of f_meter_of f_filled_pipe) kd) fd' ["held"] (spBuild (csOf C_Store C_Fixed C_Latch C_Meter C_Pipe) kd) ∧ Binds K fd' ["held"] [] := fun kd h => by
    rcases (show kd = 0 ∨ kd = 1 ∨ kd = 2 ∨ kd = 3 ∨ kd = 4 by omega) with rfl | rfl | rfl | rfl | rfl
    · exact ⟨_, k_filled_store, G_filled_store, b_filled_store⟩
    · exact ⟨_, k_fixed_of, G_fixed_of.mono (by decide), b_fixed_of⟩
    · exact ⟨_, k_latch_of, G_latch_of.mono (by decide), b_latch_of⟩
    · exact ⟨_, k_meter_of, G_meter_of.mono (by decide), b_meter_of⟩
    · exact ⟨_, k_filled_pipe, G_filled_pipe, b_filled_pipe⟩
  have G_read_chip : FnOk l.prog w K mg base CX0 7 f_read_chip _ ["text"] (spReadChip (csOf C_Store C_Fixed C_Latch C_Meter C_Pipe)) := okread_chip (cs := (csOf C_Store C_Fixed C_Latch C_Meter C_Pipe)) (fb := (csOf f_filled_store f_fixed_of f_latch_of f_meter_of f_filled_pipe)) F_read_chip T (PySem.W.mg_of X G g_K) DK C_read_word GB
  have C_read_chip : Cal l.prog w K mg base 7 "read_chip" ["text"] (spReadChip (csOf C_Store C_Fixed C_Latch C_Meter C_Pipe)) := ⟨f_read_chip, _, G_read_chip, PySem.W.mg_of X G a0_read_chip, k_read_chip, b_read_chip⟩
  have G__law_size : FnOk l.prog w K mg base CX0 1 f__law_size _ ["model"] spSize := ok_law_size F__law_size T
  have C__law_size : Cal l.prog w K mg base 1 "_law_size" ["model"] spSize := ⟨f__law_size, _, G__law_size, PySem.W.mg_of X G a0__law_size, k__law_size, b__law_size⟩
  have NF : ∀ kd kd', kd < 5 → kd' < 5 → PySem.W.notFirst K ((csOf C_Store C_Fixed C_Latch C_Meter C_Pipe) kd) (.ref ((csOf C_Store C_Fixed C_Latch C_Meter C_Pipe) kd')) = true := fun kd kd' h h' => by
    rcases (show kd = 0 ∨ kd = 1 ∨ kd = 2 ∨ kd = 3 ∨ kd = 4 by omega) with rfl | rfl | rfl | rfl | rfl <;> rcases (show kd' = 0 ∨ kd' = 1 ∨ kd' = 2 ∨ kd' = 3 ∨ kd' = 4 by omega) with rfl | rfl | rfl | rfl | rfl
    · exact (by simp [PySem.W.notFirst] : PySem.W.notFirst K C_Store (.ref C_Store) = true)
    · exact nf01_
    · exact nf02_
    · exact nf03_
    · exact nf04_
    · exact nf10_
    · exact (by simp [PySem.W.notFirst] : PySem.W.notFirst K C_Fixed (.ref C_Fixed) = true)
    · exact nf12_
    · exact nf13_
    · exact nf14_
    · exact nf20_
    · exact nf21_
    · exact (by simp [PySem.W.notFirst] : PySem.W.notFirst K C_Latch (.ref C_Latch) = true)
    · exact nf23_
    · exact nf24_
    · exact nf30_
    · exact nf31_
    · exact nf32_
    · exact (by simp [PySem.W.notFirst] : PySem.W.notFirst K C_Meter (.ref C_Meter) = true)
    · exact nf34_
    · exact nf40_
    · exact nf41_
    · exact nf42_
    · exact nf43_
    · exact (by simp [PySem.W.notFirst] : PySem.W.notFirst K C_Pipe (.ref C_Pipe) = true)
  have G__law_agree : FnOk l.prog w K mg base CX0 8 f__law_agree _ ["place", "one", "other"] (spAgree (csOf C_Store C_Fixed C_Latch C_Meter C_Pipe)) := ok_law_agree (cs := (csOf C_Store C_Fixed C_Latch C_Meter C_Pipe)) F__law_agree T C__law_alike1 C_read_chip MS ML MT MR ME NE5 NF
  have C__law_agree : Cal l.prog w K mg base 8 "_law_agree" ["place", "one", "other"] (spAgree (csOf C_Store C_Fixed C_Latch C_Meter C_Pipe)) := ⟨f__law_agree, _, G__law_agree, PySem.W.mg_of X G a0__law_agree, k__law_agree, b__law_agree⟩
  have G__law_pair : FnOk l.prog w K mg base CX0 5 f__law_pair _ ["bag"] (spPair (csOf C_Store C_Fixed C_Latch C_Meter C_Pipe)) := ok_law_pair (cs := (csOf C_Store C_Fixed C_Latch C_Meter C_Pipe)) F__law_pair T C__law_draw C__law_word GMFixed_1 GMFixed_words GMPipe_1 GMPipe_room GMLatch_1 GMLatch_word GMMeter_1 GMMeter_word GMStore_2 GMStore_word_cells
  have C__law_pair : Cal l.prog w K mg base 5 "_law_pair" ["bag"] (spPair (csOf C_Store C_Fixed C_Latch C_Meter C_Pipe)) := ⟨f__law_pair, _, G__law_pair, PySem.W.mg_of X G a0__law_pair, k__law_pair, b__law_pair⟩
  have G__law_done : FnOk l.prog w K mg base CX0 6 f__law_done _ ["bag", "some"] (spDone (csOf C_Store C_Fixed C_Latch C_Meter C_Pipe)) := ok_law_done (cs := (csOf C_Store C_Fixed C_Latch C_Meter C_Pipe)) F__law_done T C__law_draw C__law_word MW MR
  have C__law_done : Cal l.prog w K mg base 6 "_law_done" ["bag", "some"] (spDone (csOf C_Store C_Fixed C_Latch C_Meter C_Pipe)) := ⟨f__law_done, _, G__law_done, PySem.W.mg_of X G a0__law_done, k__law_done, b__law_done⟩
  exact oklaw (cs := (csOf C_Store C_Fixed C_Latch C_Meter C_Pipe)) F_law T C__law_bag C__law_cell_at C__law_draw C__law_pair C__law_size C__law_done C__law_agree
theorem walk {l : PySem.W.OpenLaw} {q : Program} {loose : List Str} {XP : (Str → Option Value) → Heap → Prop} {YP : World → Heap → Prop} {d : DefRec} {K : Params → PySem.W.Frag} (hn : l.most = some 63) (hdf : d.params.defaults = [])
    (hY : ∀ (w : World) (h : Heap), YP w h → (K w.params).In h)
    (F : ∀ (w : World) (mg : Str → Option Value) (fa : Addr) (h : Heap), (K w.params).In h → h.Ns mainGlobals mg → mg d.name = some (.ref fa) →
      ∃ fd : FuncData, (∀ (s : Shared) (u : Value), BindsTo s fd ⟨[u], []⟩ [("script", u)]) ∧ ∀ base : Heap, (K w.params).In base → base.Ns mainGlobals mg → FnOk l.prog w (K w.params) mg base CX0 9 fa fd ["script"] (spLaw (K w.params))) :
    PySem.W.WalkO q loose XP YP l.row.toRowW d [] (fun f vs => PySem.call f vs) :=
  L2.walk_ofB (n := 63) (k := 9) (x := "script") (CX := fun _ => CX0) (sp := fun w => spLaw (K w.params)) hn (by decide) hdf ⟨rfl, by decide, by decide⟩ hY F (fun _ _ a ns hl hb _ hS => ⟨a, ns, rfl, hS, hl, hb, fun _ => rfl⟩) fun _ _ _ _ _ z => z
end Cb
set_option maxRecDepth 1000000
set_option maxHeartbeats 0
namespace Hd
open PySem PySem.W
def vw : Program := PySem.W.view PySem.Challenge.pw_chipbus_k30_whole_equal_by_texts [1, 2, 3, 4, 5, 7, 8, 9, 10, 11, 13, 14, 15, 16, 18, 19, 20, 21, 22, 23, 24, 25, 27, 28, 29, 30, 31, 32, 33, 34, 35, 36, 38, 39, 40, 41, 42, 43, 44, 45, 46, 47]
def ls : List Str := ["Store", "Latch", "Meter", "Pipe", "KINDS"]
theorem h1 : SeenF "special-get-raises" false PySem.Challenge.rw_chipbus_k30_whole_equal_by_texts.row.prog vw ls (fun s => xlAt vw [] s && recOk (RowW.records (OpenRow.toRowW (OpenLaw.row PySem.Challenge.rw_chipbus_k30_whole_equal_by_texts))) s) 8040 true := by
  intro w os
  kernel_rfl
theorem h1t : SeenF "special-get-raises" true PySem.Challenge.rw_chipbus_k30_whole_equal_by_texts.row.prog vw ls (fun s => xlAt vw [] s && recOk (RowW.records (OpenRow.toRowW (OpenLaw.row PySem.Challenge.rw_chipbus_k30_whole_equal_by_texts))) s) 8040 true := by
  intro w os
  kernel_rfl
end Hd
open PySem PySem.W in
local macro_rules | `(tactic| o_head $H) => `(tactic| (
  refine holds_open (q := Hd.vw) (loose := Hd.ls) (Xt := fun s => xlAt Hd.vw [] s && recOk (RowW.records (OpenRow.toRowW (OpenLaw.row PySem.Challenge.rw_chipbus_k30_whole_equal_by_texts))) s) (XP := XL Hd.vw []) (Yf := Hook.obs $H) (Ya := Hook.val $H) (YP := Hook.says $H) (N := 8040) ?hl (Hook.of $H) (Hook.keeps $H) (fun s e => xl_of s (Bool.and_eq_true_iff.mp e).1) XL.keeps (by rfl) (by rfl) (by rfl) (fun s e => recFacts_of (Bool.and_eq_true_iff.mp e).2) (by rfl) (by first | assumption | decide +kernel) (by decide +kernel) ⟨rfl, rfl, rfl, rfl, rfl, by decide +kernel⟩ ?hw ?hc
  (case hl => refine Hd.left_split "special-get-raises" Hd.h1 Hd.h1t (by kernel_rfl) (fun s => by kernel_rfl) rfl ?h2 ?h3; (case h2 => (intro w os; kernel_rfl)); (case h3 => (intro w os; kernel_rfl)))))
open PySem PySem.W PyProof.Rows
set_option maxRecDepth 1000000 in
set_option maxHeartbeats 0 in
theorem PySem.Challenge.cw_chipbus_k30_whole_equal_by_texts_holds : PySem.Challenge.rw_chipbus_k30_whole_equal_by_texts.Holds := by
  w_on; o_law; k_head; (case hw => w_witness2)
  k_fill
  refine Cb.walk (l := PySem.Challenge.rw_chipbus_k30_whole_equal_by_texts) rfl rfl (fun w h Y => PySem.W.kIn_of Y) ?F
  case F =>
    intro w mg fa h KX G hmg
    refine' Cb.all_mk KX G hmg ?a0_is_number ?l_is_number ?c_is_number ?k_is_number ?a0_is_word ?l_is_word ?c_is_word ?k_is_word ?a0_check_word ?l_check_word ?c_check_word ?k_check_word ?a_Chip ?sg_cm_Chip___init__ ?rd_cm_Chip___init__ ?fc_cm_Chip___init__ ?l_cm_Chip___init__ ?c_cm_Chip___init__ ?k_cm_Chip___init__ ?a0_by_figures ?l_by_figures ?c_by_figures ?k_by_figures ?a0_two_figures ?l_two_figures ?c_two_figures ?k_two_figures ?a_Store ?pg_Store ?hd_Store ?po_Store ?sa_Store ?nhead_Store ?nheld_Store ?nroom_Store ?at_m_Store___len__ ?fn_m_Store___len__ ?l_m_Store___len__ ?c_m_Store___len__ ?k_m_Store___len__ ?at_m_Store_check_cell ?fn_m_Store_check_cell ?l_m_Store_check_cell ?c_m_Store_check_cell ?k_m_Store_check_cell ?at_m_Store_check_write ?fn_m_Store_check_write ?l_m_Store_check_write ?c_m_Store_check_write ?k_m_Store_check_write ?at_m_Store_look ?fn_m_Store_look ?l_m_Store_look ?c_m_Store_look ?k_m_Store_look ?at_m_Store_state ?fn_m_Store_state ?l_m_Store_state ?c_m_Store_state ?k_m_Store_state ?at_m_Store_read ?fn_m_Store_read ?l_m_Store_read ?c_m_Store_read ?k_m_Store_read ?at_m_Store_write ?fn_m_Store_write ?l_m_Store_write ?c_m_Store_write ?k_m_Store_write ?at_m_Store___str__ ?fn_m_Store___str__ ?l_m_Store___str__ ?c_m_Store___str__ ?k_m_Store___str__ ?a_Fixed ?pg_Fixed ?hd_Fixed ?po_Fixed ?sa_Fixed ?nhead_Fixed ?nheld_Fixed ?nroom_Fixed ?at_m_Fixed___len__ ?fn_m_Fixed___len__ ?l_m_Fixed___len__ ?c_m_Fixed___len__ ?k_m_Fixed___len__ ?at_m_Fixed_check_cell ?fn_m_Fixed_check_cell ?l_m_Fixed_check_cell ?c_m_Fixed_check_cell ?k_m_Fixed_check_cell ?at_m_Fixed_check_write ?fn_m_Fixed_check_write ?l_m_Fixed_check_write ?c_m_Fixed_check_write ?k_m_Fixed_check_write ?at_m_Fixed_look ?fn_m_Fixed_look ?l_m_Fixed_look ?c_m_Fixed_look ?k_m_Fixed_look ?at_m_Fixed_state ?fn_m_Fixed_state ?l_m_Fixed_state ?c_m_Fixed_state ?k_m_Fixed_state ?at_m_Fixed_read ?fn_m_Fixed_read ?l_m_Fixed_read ?c_m_Fixed_read ?k_m_Fixed_read ?at_m_Fixed_write ?fn_m_Fixed_write ?l_m_Fixed_write ?c_m_Fixed_write ?k_m_Fixed_write ?at_m_Fixed___str__ ?fn_m_Fixed___str__ ?l_m_Fixed___str__ ?c_m_Fixed___str__ ?k_m_Fixed___str__ ?a_Latch ?pg_Latch ?hd_Latch ?po_Latch ?sa_Latch ?nhead_Latch ?nheld_Latch ?nroom_Latch ?at_m_Latch___len__ ?fn_m_Latch___len__ ?l_m_Latch___len__ ?c_m_Latch___len__ ?k_m_Latch___len__ ?at_m_Latch_check_cell ?fn_m_Latch_check_cell ?l_m_Latch_check_cell ?c_m_Latch_check_cell ?k_m_Latch_check_cell ?at_m_Latch_check_write ?fn_m_Latch_check_write ?l_m_Latch_check_write ?c_m_Latch_check_write ?k_m_Latch_check_write ?at_m_Latch_look ?fn_m_Latch_look ?l_m_Latch_look ?c_m_Latch_look ?k_m_Latch_look ?at_m_Latch_state ?fn_m_Latch_state ?l_m_Latch_state ?c_m_Latch_state ?k_m_Latch_state ?at_m_Latch_read ?fn_m_Latch_read ?l_m_Latch_read ?c_m_Latch_read ?k_m_Latch_read ?at_m_Latch_write ?fn_m_Latch_write ?l_m_Latch_write ?c_m_Latch_write ?k_m_Latch_write ?at_m_Latch___str__ ?fn_m_Latch___str__ ?l_m_Latch___str__ ?c_m_Latch___str__ ?k_m_Latch___str__ ?a_Meter ?pg_Meter ?hd_Meter ?po_Meter ?sa_Meter ?nhead_Meter ?nheld_Meter ?nroom_Meter ?at_m_Meter___len__ ?fn_m_Meter___len__ ?l_m_Meter___len__ ?c_m_Meter___len__ ?k_m_Meter___len__ ?at_m_Meter_check_cell ?fn_m_Meter_check_cell ?l_m_Meter_check_cell ?c_m_Meter_check_cell ?k_m_Meter_check_cell ?at_m_Meter_check_write ?fn_m_Meter_check_write ?l_m_Meter_check_write ?c_m_Meter_check_write ?k_m_Meter_check_write ?at_m_Meter_look ?fn_m_Meter_look ?l_m_Meter_look ?c_m_Meter_look ?k_m_Meter_look ?at_m_Meter_state ?fn_m_Meter_state ?l_m_Meter_state ?c_m_Meter_state ?k_m_Meter_state ?at_m_Meter_read ?fn_m_Meter_read ?l_m_Meter_read ?c_m_Meter_read ?k_m_Meter_read ?at_m_Meter_write ?fn_m_Meter_write ?l_m_Meter_write ?c_m_Meter_write ?k_m_Meter_write ?at_m_Meter___str__ ?fn_m_Meter___str__ ?l_m_Meter___str__ ?c_m_Meter___str__ ?k_m_Meter___str__ ?a_Pipe ?pg_Pipe ?hd_Pipe ?po_Pipe ?sa_Pipe ?nhead_Pipe ?nheld_Pipe ?nroom_Pipe ?at_m_Pipe___len__ ?fn_m_Pipe___len__ ?l_m_Pipe___len__ ?c_m_Pipe___len__ ?k_m_Pipe___len__ ?at_m_Pipe_check_cell ?fn_m_Pipe_check_cell ?l_m_Pipe_check_cell ?c_m_Pipe_check_cell ?k_m_Pipe_check_cell ?at_m_Pipe_check_write ?fn_m_Pipe_check_write ?l_m_Pipe_check_write ?c_m_Pipe_check_write ?k_m_Pipe_check_write ?at_m_Pipe_look ?fn_m_Pipe_look ?l_m_Pipe_look ?c_m_Pipe_look ?k_m_Pipe_look ?at_m_Pipe_state ?fn_m_Pipe_state ?l_m_Pipe_state ?c_m_Pipe_state ?k_m_Pipe_state ?at_m_Pipe_read ?fn_m_Pipe_read ?l_m_Pipe_read ?c_m_Pipe_read ?k_m_Pipe_read ?at_m_Pipe_write ?fn_m_Pipe_write ?l_m_Pipe_write ?c_m_Pipe_write ?k_m_Pipe_write ?at_m_Pipe___str__ ?fn_m_Pipe___str__ ?l_m_Pipe___str__ ?c_m_Pipe___str__ ?k_m_Pipe___str__ ?t1_Store ?t2_Store ?t3_Store ?t4_Store ?t5_Store ?n1_Store ?n2_Store ?t1_Fixed ?t2_Fixed ?t3_Fixed ?t4_Fixed ?t5_Fixed ?n1_Fixed ?n2_Fixed ?t1_Latch ?t2_Latch ?t3_Latch ?t4_Latch ?t5_Latch ?n1_Latch ?n2_Latch ?t1_Meter ?t2_Meter ?t3_Meter ?t4_Meter ?t5_Meter ?n1_Meter ?n2_Meter ?t1_Pipe ?t2_Pipe ?t3_Pipe ?t4_Pipe ?t5_Pipe ?n1_Pipe ?n2_Pipe ?at_m_Store___eq__ ?fn_m_Store___eq__ ?l_m_Store___eq__ ?c_m_Store___eq__ ?k_m_Store___eq__ ?at_m_Fixed___eq__ ?fn_m_Fixed___eq__ ?l_m_Fixed___eq__ ?c_m_Fixed___eq__ ?k_m_Fixed___eq__ ?at_m_Latch___eq__ ?fn_m_Latch___eq__ ?l_m_Latch___eq__ ?c_m_Latch___eq__ ?k_m_Latch___eq__ ?at_m_Meter___eq__ ?fn_m_Meter___eq__ ?l_m_Meter___eq__ ?c_m_Meter___eq__ ?k_m_Meter___eq__ ?at_m_Pipe___eq__ ?fn_m_Pipe___eq__ ?l_m_Pipe___eq__ ?c_m_Pipe___eq__ ?k_m_Pipe___eq__ ?mk_i_Store ?kc_i_Store ?at_i_Store ?fn_i_Store ?l_i_Store ?c_i_Store ?k_i_Store ?d_i_Store ?mk_i_Fixed ?kc_i_Fixed ?at_i_Fixed ?fn_i_Fixed ?l_i_Fixed ?c_i_Fixed ?k_i_Fixed ?mk_i_Latch ?kc_i_Latch ?at_i_Latch ?fn_i_Latch ?l_i_Latch ?c_i_Latch ?k_i_Latch ?d_i_Latch ?mk_i_Meter ?kc_i_Meter ?at_i_Meter ?fn_i_Meter ?l_i_Meter ?c_i_Meter ?k_i_Meter ?d_i_Meter ?mk_i_Pipe ?kc_i_Pipe ?at_i_Pipe ?fn_i_Pipe ?l_i_Pipe ?c_i_Pipe ?k_i_Pipe ?d_i_Pipe ?a0__law_cell_at ?l__law_cell_at ?c__law_cell_at ?k__law_cell_at ?a0__law_bag ?l__law_bag ?c__law_bag ?k__law_bag ?a0__law_draw ?l__law_draw ?c__law_draw ?k__law_draw ?a0__law_alike ?l__law_alike ?c__law_alike ?k__law_alike ?a0__law_word ?l__law_word ?c__law_word ?k__law_word ?a0_only_word ?l_only_word ?c_only_word ?k_only_word ?a0_are_figures ?l_are_figures ?c_are_figures ?k_are_figures ?a0_sixteen_of ?l_sixteen_of ?c_sixteen_of ?k_sixteen_of ?a0_read_sixteen ?l_read_sixteen ?c_read_sixteen ?k_read_sixteen ?a0_read_word ?l_read_word ?c_read_word ?k_read_word ?a0_fixed_of ?l_fixed_of ?c_fixed_of ?k_fixed_of ?a0_latch_of ?l_latch_of ?c_latch_of ?k_latch_of ?a0_meter_of ?l_meter_of ?c_meter_of ?k_meter_of ?a0_filled_store ?l_filled_store ?c_filled_store ?k_filled_store ?a0_filled_pipe ?l_filled_pipe ?c_filled_pipe ?k_filled_pipe ?g_K ?l_K ?s_K ?e0_K ?e1_K ?e2_K ?e3_K ?e4_K ?a0_read_chip ?l_read_chip ?c_read_chip ?k_read_chip ?a0__law_size ?l__law_size ?c__law_size ?k__law_size ?nf01_ ?nf02_ ?nf03_ ?nf04_ ?nf10_ ?nf12_ ?nf13_ ?nf14_ ?nf20_ ?nf21_ ?nf23_ ?nf24_ ?nf30_ ?nf31_ ?nf32_ ?nf34_ ?nf40_ ?nf41_ ?nf42_ ?nf43_ ?a0__law_agree ?l__law_agree ?c__law_agree ?k__law_agree ?a0__law_pair ?l__law_pair ?c__law_pair ?k__law_pair ?a0__law_done ?l__law_done ?c__law_done ?k__law_done ?a0_law ?l_law ?c_law ?k_law ?z_LAST_WORD ?z_MOST_CELLS ?z_MOST_ROOM ?z_SIXTEEN ?z_len ?z_sum ?z_all ?z_max ?z_min ?z_int ?z_bool ?z_isinstance ?z_range ?z_enumerate ?z_zip ?z_str ?z_tuple ?z_list
    (case a0_is_number => k_is)
    (case l_is_number => k_is)
    (case c_is_number => k_is)
    (case k_is_number => k_is)
    (case a0_is_word => k_is)
    (case l_is_word => k_is)
    (case c_is_word => k_is)
    (case k_is_word => k_is)
    (case a0_check_word => k_is)
    (case l_check_word => k_is)
    (case c_check_word => k_is)
    (case k_check_word => k_is)
    (case a_Chip => k_is)
    (case sg_cm_Chip___init__ => k_is)
    (case rd_cm_Chip___init__ => k_is)
    (case fc_cm_Chip___init__ => k_is)
    (case l_cm_Chip___init__ => k_is)
    (case c_cm_Chip___init__ => k_is)
    (case k_cm_Chip___init__ => k_is)
    (case a0_by_figures => k_is)
    (case l_by_figures => k_is)
    (case c_by_figures => k_is)
    (case k_by_figures => k_is)
    (case a0_two_figures => k_is)
    (case l_two_figures => k_is)
    (case c_two_figures => k_is)
    (case k_two_figures => k_is)
    (case a_Store => k_is)
    (case pg_Store => k_is)
    (case hd_Store => k_is)
    (case po_Store => k_is)
    (case sa_Store => k_is)
    (case nhead_Store => k_is)
    (case nheld_Store => k_is)
    (case nroom_Store => k_is)
    (case at_m_Store___len__ => k_is)
    (case fn_m_Store___len__ => k_is)
    (case l_m_Store___len__ => k_is)
    (case c_m_Store___len__ => k_is)
    (case k_m_Store___len__ => k_is)
    (case at_m_Store_check_cell => k_is)
    (case fn_m_Store_check_cell => k_is)
    (case l_m_Store_check_cell => k_is)
    (case c_m_Store_check_cell => k_is)
    (case k_m_Store_check_cell => k_is)
    (case at_m_Store_check_write => k_is)
    (case fn_m_Store_check_write => k_is)
    (case l_m_Store_check_write => k_is)
    (case c_m_Store_check_write => k_is)
    (case k_m_Store_check_write => k_is)
    (case at_m_Store_look => k_is)
    (case fn_m_Store_look => k_is)
    (case l_m_Store_look => k_is)
    (case c_m_Store_look => k_is)
    (case k_m_Store_look => k_is)
    (case at_m_Store_state => k_is)
    (case fn_m_Store_state => k_is)
    (case l_m_Store_state => k_is)
    (case c_m_Store_state => k_is)
    (case k_m_Store_state => k_is)
    (case at_m_Store_read => k_is)
    (case fn_m_Store_read => k_is)
    (case l_m_Store_read => k_is)
    (case c_m_Store_read => k_is)
    (case k_m_Store_read => k_is)
    (case at_m_Store_write => k_is)
    (case fn_m_Store_write => k_is)
    (case l_m_Store_write => k_is)
    (case c_m_Store_write => k_is)
    (case k_m_Store_write => k_is)
    (case at_m_Store___str__ => k_is)
    (case fn_m_Store___str__ => k_is)
    (case l_m_Store___str__ => k_is)
    (case c_m_Store___str__ => k_is)
    (case k_m_Store___str__ => k_is)
    (case a_Fixed => k_is)
    (case pg_Fixed => k_is)
    (case hd_Fixed => k_is)
    (case po_Fixed => k_is)
    (case sa_Fixed => k_is)
    (case nhead_Fixed => k_is)
    (case nheld_Fixed => k_is)
    (case nroom_Fixed => k_is)
    (case at_m_Fixed___len__ => k_is)
    (case fn_m_Fixed___len__ => k_is)
    (case l_m_Fixed___len__ => k_is)
    (case c_m_Fixed___len__ => k_is)
    (case k_m_Fixed___len__ => k_is)
    (case at_m_Fixed_check_cell => k_is)
    (case fn_m_Fixed_check_cell => k_is)
    (case l_m_Fixed_check_cell => k_is)
    (case c_m_Fixed_check_cell => k_is)
    (case k_m_Fixed_check_cell => k_is)
    (case at_m_Fixed_check_write => k_is)
    (case fn_m_Fixed_check_write => k_is)
    (case l_m_Fixed_check_write => k_is)
    (case c_m_Fixed_check_write => k_is)
    (case k_m_Fixed_check_write => k_is)
    (case at_m_Fixed_look => k_is)
    (case fn_m_Fixed_look => k_is)
    (case l_m_Fixed_look => k_is)
    (case c_m_Fixed_look => k_is)
    (case k_m_Fixed_look => k_is)
    (case at_m_Fixed_state => k_is)
    (case fn_m_Fixed_state => k_is)
    (case l_m_Fixed_state => k_is)
    (case c_m_Fixed_state => k_is)
    (case k_m_Fixed_state => k_is)
    (case at_m_Fixed_read => k_is)
    (case fn_m_Fixed_read => k_is)
    (case l_m_Fixed_read => k_is)
    (case c_m_Fixed_read => k_is)
    (case k_m_Fixed_read => k_is)
    (case at_m_Fixed_write => k_is)
    (case fn_m_Fixed_write => k_is)
    (case l_m_Fixed_write => k_is)
    (case c_m_Fixed_write => k_is)
    (case k_m_Fixed_write => k_is)
    (case at_m_Fixed___str__ => k_is)
    (case fn_m_Fixed___str__ => k_is)
    (case l_m_Fixed___str__ => k_is)
    (case c_m_Fixed___str__ => k_is)
    (case k_m_Fixed___str__ => k_is)
    (case a_Latch => k_is)
    (case pg_Latch => k_is)
    (case hd_Latch => k_is)
    (case po_Latch => k_is)
    (case sa_Latch => k_is)
    (case nhead_Latch => k_is)
    (case nheld_Latch => k_is)
    (case nroom_Latch => k_is)
    (case at_m_Latch___len__ => k_is)
    (case fn_m_Latch___len__ => k_is)
    (case l_m_Latch___len__ => k_is)
    (case c_m_Latch___len__ => k_is)
    (case k_m_Latch___len__ => k_is)
    (case at_m_Latch_check_cell => k_is)
    (case fn_m_Latch_check_cell => k_is)
    (case l_m_Latch_check_cell => k_is)
    (case c_m_Latch_check_cell => k_is)
    (case k_m_Latch_check_cell => k_is)
    (case at_m_Latch_check_write => k_is)
    (case fn_m_Latch_check_write => k_is)
    (case l_m_Latch_check_write => k_is)
    (case c_m_Latch_check_write => k_is)
    (case k_m_Latch_check_write => k_is)
    (case at_m_Latch_look => k_is)
    (case fn_m_Latch_look => k_is)
    (case l_m_Latch_look => k_is)
    (case c_m_Latch_look => k_is)
    (case k_m_Latch_look => k_is)
    (case at_m_Latch_state => k_is)
    (case fn_m_Latch_state => k_is)
    (case l_m_Latch_state => k_is)
    (case c_m_Latch_state => k_is)
    (case k_m_Latch_state => k_is)
    (case at_m_Latch_read => k_is)
    (case fn_m_Latch_read => k_is)
    (case l_m_Latch_read => k_is)
    (case c_m_Latch_read => k_is)
    (case k_m_Latch_read => k_is)
    (case at_m_Latch_write => k_is)
    (case fn_m_Latch_write => k_is)
    (case l_m_Latch_write => k_is)
    (case c_m_Latch_write => k_is)
    (case k_m_Latch_write => k_is)
    (case at_m_Latch___str__ => k_is)
    (case fn_m_Latch___str__ => k_is)
    (case l_m_Latch___str__ => k_is)
    (case c_m_Latch___str__ => k_is)
    (case k_m_Latch___str__ => k_is)
    (case a_Meter => k_is)
    (case pg_Meter => k_is)
    (case hd_Meter => k_is)
    (case po_Meter => k_is)
    (case sa_Meter => k_is)
    (case nhead_Meter => k_is)
    (case nheld_Meter => k_is)
    (case nroom_Meter => k_is)
    (case at_m_Meter___len__ => k_is)
    (case fn_m_Meter___len__ => k_is)
    (case l_m_Meter___len__ => k_is)
    (case c_m_Meter___len__ => k_is)
    (case k_m_Meter___len__ => k_is)
    (case at_m_Meter_check_cell => k_is)
    (case fn_m_Meter_check_cell => k_is)
    (case l_m_Meter_check_cell => k_is)
    (case c_m_Meter_check_cell => k_is)
    (case k_m_Meter_check_cell => k_is)
    (case at_m_Meter_check_write => k_is)
    (case fn_m_Meter_check_write => k_is)
    (case l_m_Meter_check_write => k_is)
    (case c_m_Meter_check_write => k_is)
    (case k_m_Meter_check_write => k_is)
    (case at_m_Meter_look => k_is)
    (case fn_m_Meter_look => k_is)
    (case l_m_Meter_look => k_is)
    (case c_m_Meter_look => k_is)
    (case k_m_Meter_look => k_is)
    (case at_m_Meter_state => k_is)
    (case fn_m_Meter_state => k_is)
    (case l_m_Meter_state => k_is)
    (case c_m_Meter_state => k_is)
    (case k_m_Meter_state => k_is)
    (case at_m_Meter_read => k_is)
    (case fn_m_Meter_read => k_is)
    (case l_m_Meter_read => k_is)
    (case c_m_Meter_read => k_is)
    (case k_m_Meter_read => k_is)
    (case at_m_Meter_write => k_is)
    (case fn_m_Meter_write => k_is)
    (case l_m_Meter_write => k_is)
    (case c_m_Meter_write => k_is)
    (case k_m_Meter_write => k_is)
    (case at_m_Meter___str__ => k_is)
    (case fn_m_Meter___str__ => k_is)
    (case l_m_Meter___str__ => k_is)
    (case c_m_Meter___str__ => k_is)
    (case k_m_Meter___str__ => k_is)
    (case a_Pipe => k_is)
    (case pg_Pipe => k_is)
    (case hd_Pipe => k_is)
    (case po_Pipe => k_is)
    (case sa_Pipe => k_is)
    (case nhead_Pipe => k_is)
    (case nheld_Pipe => k_is)
    (case nroom_Pipe => k_is)
    (case at_m_Pipe___len__ => k_is)
    (case fn_m_Pipe___len__ => k_is)
    (case l_m_Pipe___len__ => k_is)
    (case c_m_Pipe___len__ => k_is)
    (case k_m_Pipe___len__ => k_is)
    (case at_m_Pipe_check_cell => k_is)
    (case fn_m_Pipe_check_cell => k_is)
    (case l_m_Pipe_check_cell => k_is)
    (case c_m_Pipe_check_cell => k_is)
    (case k_m_Pipe_check_cell => k_is)
    (case at_m_Pipe_check_write => k_is)
    (case fn_m_Pipe_check_write => k_is)
    (case l_m_Pipe_check_write => k_is)
    (case c_m_Pipe_check_write => k_is)
    (case k_m_Pipe_check_write => k_is)
    (case at_m_Pipe_look => k_is)
    (case fn_m_Pipe_look => k_is)
    (case l_m_Pipe_look => k_is)
    (case c_m_Pipe_look => k_is)
    (case k_m_Pipe_look => k_is)
    (case at_m_Pipe_state => k_is)
    (case fn_m_Pipe_state => k_is)
    (case l_m_Pipe_state => k_is)
    (case c_m_Pipe_state => k_is)
    (case k_m_Pipe_state => k_is)
    (case at_m_Pipe_read => k_is)
    (case fn_m_Pipe_read => k_is)
    (case l_m_Pipe_read => k_is)
    (case c_m_Pipe_read => k_is)
    (case k_m_Pipe_read => k_is)
    (case at_m_Pipe_write => k_is)
    (case fn_m_Pipe_write => k_is)
    (case l_m_Pipe_write => k_is)
    (case c_m_Pipe_write => k_is)
    (case k_m_Pipe_write => k_is)
    (case at_m_Pipe___str__ => k_is)
    (case fn_m_Pipe___str__ => k_is)
    (case l_m_Pipe___str__ => k_is)
    (case c_m_Pipe___str__ => k_is)
    (case k_m_Pipe___str__ => k_is)
    (case t1_Store => k_is)
    (case t2_Store => k_is)
    (case t3_Store => k_is)
    (case t4_Store => k_is)
    (case t5_Store => k_is)
    (case n1_Store => k_is)
    (case n2_Store => k_is)
    (case t1_Fixed => k_is)
    (case t2_Fixed => k_is)
    (case t3_Fixed => k_is)
    (case t4_Fixed => k_is)
    (case t5_Fixed => k_is)
    (case n1_Fixed => k_is)
    (case n2_Fixed => k_is)
    (case t1_Latch => k_is)
    (case t2_Latch => k_is)
    (case t3_Latch => k_is)
    (case t4_Latch => k_is)
    (case t5_Latch => k_is)
    (case n1_Latch => k_is)
    (case n2_Latch => k_is)
    (case t1_Meter => k_is)
    (case t2_Meter => k_is)
    (case t3_Meter => k_is)
    (case t4_Meter => k_is)
    (case t5_Meter => k_is)
    (case n1_Meter => k_is)
    (case n2_Meter => k_is)
    (case t1_Pipe => k_is)
    (case t2_Pipe => k_is)
    (case t3_Pipe => k_is)
    (case t4_Pipe => k_is)
    (case t5_Pipe => k_is)
    (case n1_Pipe => k_is)
    (case n2_Pipe => k_is)
    (case at_m_Store___eq__ => k_is)
    (case fn_m_Store___eq__ => k_is)
    (case l_m_Store___eq__ => k_is)
    (case c_m_Store___eq__ => k_is)
    (case k_m_Store___eq__ => k_is)
    (case at_m_Fixed___eq__ => k_is)
    (case fn_m_Fixed___eq__ => k_is)
    (case l_m_Fixed___eq__ => k_is)
    (case c_m_Fixed___eq__ => k_is)
    (case k_m_Fixed___eq__ => k_is)
    (case at_m_Latch___eq__ => k_is)
    (case fn_m_Latch___eq__ => k_is)
    (case l_m_Latch___eq__ => k_is)
    (case c_m_Latch___eq__ => k_is)
    (case k_m_Latch___eq__ => k_is)
    (case at_m_Meter___eq__ => k_is)
    (case fn_m_Meter___eq__ => k_is)
    (case l_m_Meter___eq__ => k_is)
    (case c_m_Meter___eq__ => k_is)
    (case k_m_Meter___eq__ => k_is)
    (case at_m_Pipe___eq__ => k_is)
    (case fn_m_Pipe___eq__ => k_is)
    (case l_m_Pipe___eq__ => k_is)
    (case c_m_Pipe___eq__ => k_is)
    (case k_m_Pipe___eq__ => k_is)
    (case mk_i_Store => k_is)
    (case kc_i_Store => k_is)
    (case at_i_Store => k_is)
    (case fn_i_Store => k_is)
    (case l_i_Store => k_is)
    (case c_i_Store => k_is)
    (case k_i_Store => k_is)
    (case d_i_Store => k_is)
    (case mk_i_Fixed => k_is)
    (case kc_i_Fixed => k_is)
    (case at_i_Fixed => k_is)
    (case fn_i_Fixed => k_is)
    (case l_i_Fixed => k_is)
    (case c_i_Fixed => k_is)
    (case k_i_Fixed => k_is)
    (case mk_i_Latch => k_is)
    (case kc_i_Latch => k_is)
    (case at_i_Latch => k_is)
    (case fn_i_Latch => k_is)
    (case l_i_Latch => k_is)
    (case c_i_Latch => k_is)
    (case k_i_Latch => k_is)
    (case d_i_Latch => k_is)
    (case mk_i_Meter => k_is)
    (case kc_i_Meter => k_is)
    (case at_i_Meter => k_is)
    (case fn_i_Meter => k_is)
    (case l_i_Meter => k_is)
    (case c_i_Meter => k_is)
    (case k_i_Meter => k_is)
    (case d_i_Meter => k_is)
    (case mk_i_Pipe => k_is)
    (case kc_i_Pipe => k_is)
    (case at_i_Pipe => k_is)
    (case fn_i_Pipe => k_is)
    (case l_i_Pipe => k_is)
    (case c_i_Pipe => k_is)
    (case k_i_Pipe => k_is)
    (case d_i_Pipe => k_is)
    (case a0__law_cell_at => k_is)
    (case l__law_cell_at => k_is)
    (case c__law_cell_at => k_is)
    (case k__law_cell_at => k_is)
    (case a0__law_bag => k_is)
    (case l__law_bag => k_is)
    (case c__law_bag => k_is)
    (case k__law_bag => k_is)
    (case a0__law_draw => k_is)
    (case l__law_draw => k_is)
    (case c__law_draw => k_is)
    (case k__law_draw => k_is)
    (case a0__law_alike => k_is)
    (case l__law_alike => k_is)
    (case c__law_alike => k_is)
    (case k__law_alike => k_is)
    (case a0__law_word => k_is)
    (case l__law_word => k_is)
    (case c__law_word => k_is)
    (case k__law_word => k_is)
    (case a0_only_word => k_is)
    (case l_only_word => k_is)
    (case c_only_word => k_is)
    (case k_only_word => k_is)
    (case a0_are_figures => k_is)
    (case l_are_figures => k_is)
    (case c_are_figures => k_is)
    (case k_are_figures => k_is)
    (case a0_sixteen_of => k_is)
    (case l_sixteen_of => k_is)
    (case c_sixteen_of => k_is)
    (case k_sixteen_of => k_is)
    (case a0_read_sixteen => k_is)
    (case l_read_sixteen => k_is)
    (case c_read_sixteen => k_is)
    (case k_read_sixteen => k_is)
    (case a0_read_word => k_is)
    (case l_read_word => k_is)
    (case c_read_word => k_is)
    (case k_read_word => k_is)
    (case a0_fixed_of => k_is)
    (case l_fixed_of => k_is)
    (case c_fixed_of => k_is)
    (case k_fixed_of => k_is)
    (case a0_latch_of => k_is)
    (case l_latch_of => k_is)
    (case c_latch_of => k_is)
    (case k_latch_of => k_is)
    (case a0_meter_of => k_is)
    (case l_meter_of => k_is)
    (case c_meter_of => k_is)
    (case k_meter_of => k_is)
    (case a0_filled_store => k_is)
    (case l_filled_store => k_is)
    (case c_filled_store => k_is)
    (case k_filled_store => k_is)
    (case a0_filled_pipe => k_is)
    (case l_filled_pipe => k_is)
    (case c_filled_pipe => k_is)
    (case k_filled_pipe => k_is)
    (case g_K => k_is)
    (case l_K => k_is)
    (case s_K => rfl)
    (case e0_K => rfl)
    (case e1_K => rfl)
    (case e2_K => rfl)
    (case e3_K => rfl)
    (case e4_K => rfl)
    (case a0_read_chip => k_is)
    (case l_read_chip => k_is)
    (case c_read_chip => k_is)
    (case k_read_chip => k_is)
    (case a0__law_size => k_is)
    (case l__law_size => k_is)
    (case c__law_size => k_is)
    (case k__law_size => k_is)
    (case nf01_ => rfl)
    (case nf02_ => rfl)
    (case nf03_ => rfl)
    (case nf04_ => rfl)
    (case nf10_ => rfl)
    (case nf12_ => rfl)
    (case nf13_ => rfl)
    (case nf14_ => rfl)
    (case nf20_ => rfl)
    (case nf21_ => rfl)
    (case nf23_ => rfl)
    (case nf24_ => rfl)
    (case nf30_ => rfl)
    (case nf31_ => rfl)
    (case nf32_ => rfl)
    (case nf34_ => rfl)
    (case nf40_ => rfl)
    (case nf41_ => rfl)
    (case nf42_ => rfl)
    (case nf43_ => rfl)
    (case a0__law_agree => k_is)
    (case l__law_agree => k_is)
    (case c__law_agree => k_is)
    (case k__law_agree => k_is)
    (case a0__law_pair => k_is)
    (case l__law_pair => k_is)
    (case c__law_pair => k_is)
    (case k__law_pair => k_is)
    (case a0__law_done => k_is)
    (case l__law_done => k_is)
    (case c__law_done => k_is)
    (case k__law_done => k_is)
    (case a0_law => k_is)
    (case l_law => k_is)
    (case c_law => k_is)
    (case k_law => k_is)
    (case z_LAST_WORD => k_is)
    (case z_MOST_CELLS => k_is)
    (case z_MOST_ROOM => k_is)
    (case z_SIXTEEN => k_is)
    (case z_len => k_is)
    (case z_sum => k_is)
    (case z_all => k_is)
    (case z_max => k_is)
    (case z_min => k_is)
    (case z_int => k_is)
    (case z_bool => k_is)
    (case z_isinstance => k_is)
    (case z_range => k_is)
    (case z_enumerate => k_is)
    (case z_zip => k_is)
    (case z_str => k_is)
    (case z_tuple => k_is)
    (case z_list => k_is)
#print axioms PySem.Challenge.cw_chipbus_k30_whole_equal_by_texts_holds
